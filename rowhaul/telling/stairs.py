"""Stairs: in which rooms the least words are others than in the room below."""

from rowhaul.plans.sizes import MOST_ROOM, check_room
from rowhaul.plans.words import plan_words
from rowhaul.programs.forms import check_program
from rowhaul.search.leads import Search
from rowhaul.search.least import paper_in, shown_in
from rowhaul.words.wholes import check_from, is_from, is_several

_MOST_APART = 40


def _search_in(program, low, high):
    """All ways of a program; what is no program, no bounds, too wide is refused, in this order."""
    check_program(program)
    check_room(low)
    check_from(high, low, min(MOST_ROOM, low + _MOST_APART))
    return Search(program)


def _papers_of(search, low, high):
    """A paper of the least for each quarter of rooms up to high: all hangs on the quarter alone."""
    return {quarter: paper_in(search, 4 * quarter) for quarter in range(low // 4, high // 4 + 1)}


def _stairs_by(search, low, high, papers):
    """The stairs, by the papers of all quarters."""
    words = {}
    for quarter in papers:
        plan = papers[quarter][0]
        words[quarter] = None if plan is None else sum(plan_words(search.program, 4 * quarter, plan))
    told = [(low, words[low // 4])]
    for room in range(low + 1, high + 1):
        if words[room // 4] != told[-1][1]:
            told.append((room, words[room // 4]))
    return tuple(told)


def _rooms_of(steps, high):
    """The rooms of which a paper tells: the first, each one with other words and the one below it, the last."""
    rooms = [steps[0][0], high]
    for room, _ in steps[1:]:
        rooms = rooms + [room - 1, room]
    return sorted(set(rooms))


def stairs(program, low, high):
    """Pairs of a room and the least words there: low, and each room in which these are others than in the one below."""
    search = _search_in(program, low, high)
    return _stairs_by(search, low, high, _papers_of(search, low, high))


def stairs_paper(program, low, high):
    """Papers of the least that show the stairs, each with its room."""
    search = _search_in(program, low, high)
    papers = _papers_of(search, low, high)
    rooms = _rooms_of(_stairs_by(search, low, high, papers), high)
    return tuple([(room, papers[room // 4]) for room in rooms])


def shows_stairs(program, low, high, thing):
    """The stairs that papers show, or None."""
    search = _search_in(program, low, high)
    if not isinstance(thing, tuple) or not all([is_several(entry, 2, 2) for entry in thing]):
        return None
    rooms = [room for room, _ in thing]
    if rooms[:1] != [low] or not all([is_from(room, low, high) for room in rooms]):
        return None
    shown = [shown_in(search, room, paper) for room, paper in thing]
    if None in shown:
        return None
    told = [(room, one[1] if one[0] == "plan" else None) for room, one in zip(rooms, shown)]
    steps = told[:1]
    for room, words in told[1:]:
        if words != steps[-1][1]:
            steps.append((room, words))
    # Of the room below each step there is a paper, too: so the words change just there.
    return tuple(steps) if _rooms_of(steps, high) == rooms else None
