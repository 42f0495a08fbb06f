"""Casts: how what is cast is sorted."""

from rowhaul.errors import NoPass
from rowhaul.programs.forms import check_program
from rowhaul.programs.shapes import widths_in
from rowhaul.words.sorting import by_keys, key_by
from rowhaul.words.wholes import is_from, is_several

_CASTS = {"cast": "sort", "left": "look", "right": "look", "meet": "look"}


def keys_in(nodes, widths, part):
    """The keys by which a part sorts what it casts: a left's and a meet's number stands behind all columns."""
    k, word = part
    node = nodes[k]
    if word == "cast":
        return node[2]
    if word == "left":
        return ((node[3], "up"), (widths[node[1]], "up"))
    if word == "right":
        return ((node[4], "up"),)
    return ((widths[k], "up"),)


def least_place(keys, heads):
    """The place of the first of the least heads, or None where there is none."""
    marked = [(key_by(keys, head), place) for place, head in enumerate(heads) if len(head) > 0]
    if len(marked) == 0:
        return None
    return min(marked)[1]


def _casts(nodes, thing):
    """Is it a part that casts?"""
    if not is_several(thing, 2, 2) or not is_from(thing[0], 0, len(nodes) - 1):
        return False
    return isinstance(thing[1], str) and _CASTS.get(thing[1], "") == nodes[thing[0]][0]


def keys_of(program, part):
    """The pairs of a column and a way by which a part sorts what it casts."""
    check_program(program)
    nodes, _ = program
    if not _casts(nodes, part):
        raise NoPass("no part that casts")
    return keys_in(nodes, widths_in(nodes), part)


def cast_sorted(program, part, records):
    """The run that a part makes of some records."""
    return by_keys(keys_of(program, part), records)


def least_head(program, part, heads):
    """The place of the least of some heads, of alike ones the first; None where all are ()."""
    return least_place(keys_of(program, part), heads)
