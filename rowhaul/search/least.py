"""Plans of the least words in a room, and papers that show them."""

from rowhaul.plans.plans import is_plan
from rowhaul.plans.sizes import check_room
from rowhaul.plans.words import plan_words
from rowhaul.programs.forms import check_program
from rowhaul.search.leads import Search
from rowhaul.words.wholes import is_rising, is_several, is_whole


def _numbers_of(priced):
    """The least words by which each set is come to, and for each but the empty one the last lead on that way."""
    numbers = {0: 0}
    last = {}
    for place, behind, one, words in priced:
        if place in numbers and (behind not in numbers or numbers[place] + words < numbers[behind]):
            numbers[behind] = numbers[place] + words
            last[behind] = (place, one)
    return numbers, last


def _passes_to(last, place):
    """The passes by which a set is come to."""
    told = ()
    while place in last:
        place, one = last[place]
        told = (one,) + told
    return told


def paper_in(search, room):
    """A paper of the least in a room."""
    plan = None
    fewest = None
    tables = []
    for ways, leads, priced in zip(search.ways, search.leads_by_ways(), search.priced_by_ways(room // 4)):
        numbers, last = _numbers_of(priced)
        tables.append(tuple([(leads.sets[place], numbers[place]) for place in sorted(numbers)]))
        if leads.whole in numbers and (fewest is None or numbers[leads.whole] < fewest):
            fewest = numbers[leads.whole]
            plan = (ways, _passes_to(last, leads.whole))
    return (plan, tuple(tables))


def shown_in(search, room, thing):
    """What a paper of the least shows in a room, or None."""
    if not is_several(thing, 2, 2) or not is_several(thing[1], len(search.ways), len(search.ways)):
        return None
    plan, tables = thing
    told = [_numbers_in(leads, table) for leads, table in zip(search.leads_by_ways(), tables)]
    if None in told:
        return None
    if not all([_is_shut(numbers, priced) for numbers, priced in zip(told, search.priced_by_ways(room // 4))]):
        return None
    wholes = [numbers[leads.whole] for leads, numbers in zip(search.leads_by_ways(), told) if leads.whole in numbers]
    if plan is None:
        return ("none",) if len(wholes) == 0 else None
    if not is_plan(search.program, room, plan):
        return None
    words = sum(plan_words(search.program, room, plan))
    return ("plan", words) if all([words <= number for number in wholes]) else None


def _numbers_in(leads, table):
    """The numbers of the sets of a table, by their places; None of what is no table."""
    if not isinstance(table, tuple) or not all([is_several(entry, 2, 2) for entry in table]):
        return None
    places = {one: place for place, one in enumerate(leads.sets)}
    numbers = {}
    for one, number in table:
        if not leads.is_set(one) or one not in places or not is_whole(number) or number < 0:
            return None
        numbers[places[one]] = number
    is_told = is_rising([one for one, _ in table]) and numbers.get(0, 1) == 0
    return numbers if is_told else None


def _is_shut(numbers, priced):
    """Does each lead from a set that has a number lead to one that has no greater number than so?"""
    for place, behind, _, words in priced:
        if place in numbers and (behind not in numbers or numbers[behind] > numbers[place] + words):
            return False
    return True


def _search_in(program, room):
    """All ways of a program; what is no program, no room, too wide is refused, in this order."""
    check_program(program)
    check_room(room)
    return Search(program)


def least(program, room):
    """A paper of the least: a plan of the least words in the room, or None, and the tables that show it."""
    return paper_in(_search_in(program, room), room)


def shows_least(program, room, thing):
    """`("plan", words)` or `("none",)`, or None of what shows nothing in the room."""
    return shown_in(_search_in(program, room), room, thing)
