"""Tables that show how many a merging moves at the least."""

from rowhaul.errors import NoNumber
from rowhaul.merges.costs import all_spans, check_lengths, least_costs, place_of, split_cost, splits_of
from rowhaul.words.wholes import is_several, is_whole


def table_of(lengths, fan):
    """A table that shows the least that any merging moves."""
    check_lengths(lengths, fan)
    return least_costs(lengths, fan)


def shows(lengths, fan, number, thing):
    """Is it a table that shows that no merging moves fewer than this number?"""
    check_lengths(lengths, fan)
    if not is_whole(number):
        raise NoNumber("no whole number")
    many = len(lengths)
    if not _is_table(many, fan, thing):
        return False
    if not all([_holds(thing, lengths, fan, a, b) for a, b in all_spans(many)]):
        return False
    whole = thing[place_of(0, many)] if many > 0 else (0,)
    return all([number <= told for told in whole])


def _is_table(many, fan, thing):
    """Is it of the form of a table for so many runs?"""
    spans = all_spans(many)
    if not isinstance(thing, dict) or len(thing) != len(spans):
        return False
    if not all([is_whole(key) for key in thing]):
        return False
    return all([_are_numbers(thing, place_of(a, b), min(fan, b - a)) for a, b in spans])


def _are_numbers(thing, place, many):
    """Does it have so many whole numbers from 0 on at this place?"""
    if place not in thing or not is_several(thing[place], many, many):
        return False
    return all([is_whole(number) and number >= 0 for number in thing[place]])


def _holds(table, lengths, fan, a, b):
    """Are the numbers of runs a up to b no greater than those of shorter spans let them be?"""
    numbers = table[place_of(a, b)]
    if b - a == 1:
        return numbers == (0,)
    if numbers[0] > min(numbers[1:]) + sum(lengths[a:b]):
        return False
    for many in range(2, min(fan, b - a) + 1):
        if any([numbers[many - 1] > split_cost(table, a, h, b, many) for h in splits_of(a, b, many)]):
            return False
    return True
