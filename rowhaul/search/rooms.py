"""Least rooms, and papers that show them."""

from rowhaul.plans.sizes import MOST_ROOM
from rowhaul.search.leads import Search
from rowhaul.search.least import paper_in, shown_in
from rowhaul.words.wholes import is_from, is_several


def _least_in(search):
    """The least room in which there is a plan: what fits hangs on the quarter alone, and at the most all does."""
    low = 0
    high = MOST_ROOM // 4
    while low < high:
        quarter = (low + high) // 2
        if search.has_plan(quarter):
            high = quarter
        else:
            low = quarter + 1
    return 4 * low


def least_room(program):
    """The least room in which there is a plan."""
    return _least_in(Search(program))


def room_paper(program):
    """The least room, a paper that shows a plan there, and one that shows that there is none in a room one less."""
    search = Search(program)
    room = _least_in(search)
    return (room, paper_in(search, room), paper_in(search, room - 1) if room > 0 else None)


def shows_room(program, thing):
    """The least room that a paper shows, or None of what shows none."""
    search = Search(program)
    if not is_several(thing, 3, 3) or not is_from(thing[0], 0, MOST_ROOM):
        return None
    room, one, other = thing
    shown = shown_in(search, room, one)
    if shown is None or shown[0] != "plan":
        return None
    if room == 0:
        return room if other is None else None
    return room if shown_in(search, room - 1, other) == ("none",) else None
