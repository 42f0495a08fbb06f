"""Expressions as texts write them."""

from rowhaul.texts.numbers import number_in
from rowhaul.words.exprs import MOST_OPS


def expr_text(expr):
    """How an expression is written."""
    if isinstance(expr, int):
        return str(expr)
    if expr[0] == "was":
        return "was"
    if expr[0] == "at":
        return "@" + str(expr[1])
    return "(" + " ".join([expr[0], expr_text(expr[1]), expr_text(expr[2])]) + ")"


def tokens_in(line):
    """The words of a line, parentheses by themselves."""
    return line.replace("(", "( ").replace(")", " )").split(" ")


def exprs_in(tokens):
    """What could be the expressions of these words, or None. Whether they are so written is for others to ask."""
    told = []
    at = 0
    while at < len(tokens):
        expr, at = _expr_at(tokens, at, MOST_OPS)
        if expr is None:
            return None
        told.append(expr)
    return tuple(told)


def _expr_at(tokens, at, ops):
    """The expression that begins at a place, of at most so many ops within one another, and the place behind it."""
    if at >= len(tokens):
        return None, at
    if tokens[at] != "(":
        return _leaf_of(tokens[at]), at + 1
    if ops == 0:
        return None, at
    one, behind_one = _expr_at(tokens, at + 2, ops - 1)
    other, behind = _expr_at(tokens, behind_one, ops - 1)
    if one is None or other is None or behind >= len(tokens) or tokens[behind] != ")":
        return None, at
    return (tokens[at + 1], one, other), behind + 1


def _leaf_of(token):
    """The expression of one word, or None."""
    if token == "was":
        return ("was",)
    return ("at", number_in(token[1:])) if token.startswith("@") else number_in(token)
