"""Closed sets and least words, gone through plainly: all sets of parts, all rows of passes."""

from itertools import combinations

from rowhaul.plans.passes import fits, is_pass
from rowhaul.plans.ways import all_ways, hangs_on, parts_of
from rowhaul.plans.words import mosts_of, words_of


def some_of(parts):
    """All sets of some parts, the empty one, too."""
    return [one for many in range(len(parts) + 1) for one in combinations(parts, many)]


def all_closed(program, ways):
    """All closed sets of parts."""
    hung = {part: hangs_on(program, ways, part) for part in parts_of(program, ways)}
    return sorted(one for one in some_of(parts_of(program, ways)) if all(other in one for part in one for other in hung[part]))


def all_leads(program, room, ways):
    """For each closed set each one that a pass that fits leads to, with the pass and its words."""
    sets = all_closed(program, ways)
    told = {}
    for one in sets:
        told[one] = []
        for more in sets:
            added = tuple(part for part in more if part not in one)
            if set(one) < set(more) and is_pass(program, ways, added) and fits(program, room, ways, added):
                told[one].append((more, added, words_of(program, room, ways, added, mosts_of(program))))
    return told


def least_numbers(program, room, ways):
    """The least words by which each set is come to."""
    leads = all_leads(program, room, ways)
    numbers = {(): 0}
    for one in sorted(leads, key=len):
        for more, _, words in leads[one] if one in numbers else ():
            numbers[more] = min(numbers.get(more, numbers[one] + words), numbers[one] + words)
    return numbers


def least_words(program, room):
    """The least words of a plan in the room, or None where there is none."""
    told = []
    for ways in all_ways(program):
        numbers = least_numbers(program, room, ways)
        if parts_of(program, ways) in numbers:
            told.append(numbers[parts_of(program, ways)])
    return min(told) if told else None
