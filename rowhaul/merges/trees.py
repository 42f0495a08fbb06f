"""Runs of records, and mergings of runs that stand beside one another."""

from rowhaul.errors import NoNumber
from rowhaul.merges.costs import check_lengths, least_costs, place_of, run_lengths, split_cost, splits_of
from rowhaul.words.wholes import check_from, is_from, is_several, is_whole

_MOST_ROWS = 400


def runs_of(count, size):
    """The lengths of the runs that so many records make, each as long as the size but the last."""
    check_from(count, 0, _MOST_ROWS)
    if not is_whole(size) or size < 1:
        raise NoNumber("no size of a run")
    return run_lengths(count, size)


def moved(lengths, fan, thing):
    """How many a merging moves, or None of what is none."""
    check_lengths(lengths, fan)
    if not isinstance(thing, tuple):
        return None
    standing = list(lengths)
    total = 0
    for pair in thing:
        if len(standing) <= fan or not _is_merge(pair, fan, len(standing)):
            return None
        first, many = pair
        made = sum(standing[first:first + many])
        standing = standing[:first] + [made] + standing[first + many:]
        total += made
    if len(standing) > fan:
        return None
    return total


def _is_merge(thing, fan, standing):
    """Is it a pair that merges some of so many runs?"""
    if not is_several(thing, 2, 2) or not is_from(thing[1], 2, fan):
        return False
    return is_from(thing[0], 0, standing - thing[1])


def least(lengths, fan):
    """How many are moved at the least, and a merging that moves no more."""
    check_lengths(lengths, fan)
    return least_in(lengths, fan)


def least_in(lengths, fan):
    """How many are moved at the least, and a merging that moves no more, of however many and long runs."""
    if len(lengths) == 0:
        return (0, ())
    costs = least_costs(lengths, fan)
    whole = costs[place_of(0, len(lengths))]
    total = min(whole)
    return (total, tuple(_merges(costs, (0, len(lengths)), whole.index(total) + 1, 0)))


def _merges(costs, span, many, ahead):
    """The merges by which the runs of a span become so many at their least cost, behind so many standing ahead.

    No bound on how many stand is looked at: a merge done while no more than the fan stand could be left out,
    so at the least cost there is none.
    """
    a, b = span
    told = costs[place_of(a, b)]
    if many > 1:
        halves = [h for h in splits_of(a, b, many) if split_cost(costs, a, h, b, many) == told[many - 1]]
        h = halves[0]
        return _merges(costs, (a, h), 1, ahead) + _merges(costs, (h, b), many - 1, ahead + 1)
    if b - a == 1:
        return []
    parts = told[1:].index(min(told[1:])) + 2
    return _merges(costs, span, parts, ahead) + [(ahead, parts)]
