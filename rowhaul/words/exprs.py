"""Words, records, and expressions over the columns of a record."""

from rowhaul.errors import Falls
from rowhaul.words.wholes import check_from, is_from, is_several

LEAST_WORD = -(10 ** 9)
MOST_WORD = 10 ** 9

# Records have a column more than nodes may have: a left record bears its number behind it.
_MOST_COLUMNS = 9
MOST_OPS = 4
_OPS = ("plus", "minus", "times", "over", "rest", "less", "same")


def is_word(thing):
    """Is it a word?"""
    return is_from(thing, LEAST_WORD, MOST_WORD)


def is_record(thing):
    """Is it a record?"""
    return is_several(thing, 1, _MOST_COLUMNS) and all([is_word(part) for part in thing])


def is_expr(thing, width, *, carried=False):
    """Is it an expression over so many columns, a carried one where it may have what was?"""
    check_from(width, 0, _MOST_COLUMNS)
    return _is_expr(thing, width, carried, MOST_OPS)


def _is_expr(thing, width, carried, ops):
    """Is it an expression with at most so many ops within one another?"""
    if not isinstance(thing, tuple):
        return is_word(thing)
    if len(thing) == 1:
        return bool(carried) and thing[0] == "was"
    if len(thing) == 2:
        return thing[0] == "at" and is_from(thing[1], 0, width - 1)
    if len(thing) != 3 or thing[0] not in _OPS or ops == 0:
        return False
    return _is_expr(thing[1], width, carried, ops - 1) and _is_expr(thing[2], width, carried, ops - 1)


def worth(expr, record, *, was=0):
    """The worth of an expression, of a record and of what was; or Falls."""
    if isinstance(expr, int):
        return expr
    if expr[0] == "at":
        return record[expr[1]]
    if expr[0] == "was":
        return was
    one = worth(expr[1], record, was=was)
    other = worth(expr[2], record, was=was)
    return _checked_op(expr[0], one, other)


def _checked_op(op, one, other):
    """What an op comes to, where it doesn't fall."""
    if op in ("over", "rest") and other == 0:
        raise Falls("nought")
    come_to = op_worth(op, one, other)
    if not is_word(come_to):
        raise Falls("great")
    return come_to


def op_worth(op, one, other):
    """What an op makes of two numbers, be that a word or not; none is divided by 0."""
    if op == "plus":
        return one + other
    if op == "minus":
        return one - other
    if op == "times":
        return one * other
    if op == "over":
        return one // other
    if op == "rest":
        return one - other * (one // other)
    if op == "less":
        return 1 if one < other else 0
    return 1 if one == other else 0
