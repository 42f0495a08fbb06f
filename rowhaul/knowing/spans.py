"""The range of an expression by the ranges of the columns, and whether it may fall by these."""

from rowhaul.words.exprs import LEAST_WORD, MOST_WORD, is_word, op_worth


def to_word(number):
    """The word nearest to a number."""
    return max(LEAST_WORD, min(MOST_WORD, number))


def joined(one, other):
    """The range from the least to the greatest of two."""
    return (min(one[0], other[0]), max(one[1], other[1]))


def is_in(one, other):
    """Is the one range within the other?"""
    return other[0] <= one[0] and one[1] <= other[1]


def words_span(ends):
    """The range of some ends, brought to words, and whether one of them is no word."""
    low = min(ends)
    high = max(ends)
    return (to_word(low), to_word(high)), not (is_word(low) and is_word(high))


def expr_span(expr, columns, was=(0, 0)):
    """The range of an expression by those of the columns and of what was, and whether it may fall."""
    if isinstance(expr, int):
        return (expr, expr), False
    if expr[0] == "at":
        return columns[expr[1]], False
    if expr[0] == "was":
        return was, False
    one, one_falls = expr_span(expr[1], columns, was)
    other, other_falls = expr_span(expr[2], columns, was)
    told, falls = _op_span(expr[0], one, other)
    return told, one_falls or other_falls or falls


def _op_span(op, one, other):
    """The range of an op by those of its two expressions, and whether it may fall itself."""
    if op in ("less", "same"):
        return (0, 1), False
    if op == "over":
        return _over_span(one, other), _has_nought(other)
    if op == "rest":
        return _rest_span(one, other), _has_nought(other)
    return words_span([op_worth(op, left, right) for left in one for right in other])


def _has_nought(span):
    return span[0] <= 0 <= span[1]


def _over_span(one, other):
    """Divisors below 0 and above 0 by themselves: about 0 the floors are not between those of the ends."""
    sides = []
    if other[0] < 0:
        sides.append((other[0], min(-1, other[1])))
    if other[1] > 0:
        sides.append((max(1, other[0]), other[1]))
    if sides == []:
        return (0, 0)
    floors = [left // right for side in sides for left in one for right in side]
    return (min(floors), max(floors))


def _rest_span(one, other):
    """A rest is nearer to 0 than its divisor, and of a first of the divisor's sign no farther than this first."""
    low = 0
    high = 0
    if other[1] > 0:
        high = other[1] - 1 if one[0] < 0 else min(other[1] - 1, one[1])
    if other[0] < 0:
        low = other[0] + 1 if one[1] > 0 else max(other[0] + 1, one[0])
    return (low, high)
