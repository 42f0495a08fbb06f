"""Nodes and outputs as texts write them."""

from rowhaul.texts.exprs import expr_text, exprs_in, tokens_in
from rowhaul.texts.numbers import number_in


def node_line(node):
    """How a node is written."""
    write = _WRITERS[node[0]]
    return " ".join([node[0]] + write(node))


def outputs_line(outputs):
    """How outputs are written."""
    return " ".join(["out"] + [str(k) for k in outputs])


def _read_words(node):
    return [node[1], str(node[3])] + [str(low) + ".." + str(high) for low, high in node[2]]


def _map_words(node):
    return [str(node[1])] + [expr_text(expr) for expr in node[2]]


def _keep_words(node):
    return [str(node[1]), expr_text(node[2])]


def _carry_words(node):
    return [str(node[1]), str(node[3]), expr_text(node[2])]


def _sort_words(node):
    return [str(node[1])] + [str(column) + ":" + way for column, way in node[2]]


def _gather_words(node):
    return [str(node[1]), str(node[2])] + [_fold_text(fold) for fold in node[3]]


def _number_words(node):
    return [str(number) for number in node[1:]]


def _fold_text(fold):
    return fold[0] if len(fold) == 1 else fold[0] + ":" + str(fold[1])


_WRITERS = {
    "read": _read_words,
    "map": _map_words,
    "keep": _keep_words,
    "carry": _carry_words,
    "sort": _sort_words,
    "gather": _gather_words,
    "look": _number_words,
    "both": _number_words,
    "beside": _number_words,
    "first": _number_words,
}


def node_in(line):
    """What could be the node of a line, or None. Whether it is one, and so written, is for others to ask."""
    tokens = tokens_in(line)
    if tokens[0] not in _READERS or len(tokens) < 3:
        return None
    read = _READERS[tokens[0]]
    return read(tokens)


def outputs_in(line):
    """What could be the outputs of a line, or None of a line that tells none."""
    tokens = line.split(" ")
    return _numbers_in(tokens[1:]) if tokens[0] == "out" else None


def _numbers_in(tokens):
    return tuple([number_in(token) for token in tokens])


def _read_in(tokens):
    ranges = tuple([_range_in(token) for token in tokens[3:]])
    return ("read", tokens[1], ranges, number_in(tokens[2]))


def _range_in(token):
    low, _, high = token.partition("..")
    return (number_in(low), number_in(high))


def _map_in(tokens):
    return ("map", number_in(tokens[1]), exprs_in(tokens[2:]))


def _keep_in(tokens):
    return ("keep", number_in(tokens[1]), _only_expr_in(tokens[2:]))


def _carry_in(tokens):
    return ("carry", number_in(tokens[1]), _only_expr_in(tokens[3:]), number_in(tokens[2]))


def _only_expr_in(tokens):
    exprs = exprs_in(tokens)
    return exprs[0] if exprs is not None and len(exprs) == 1 else None


def _sort_in(tokens):
    return ("sort", number_in(tokens[1]), tuple([_key_in(token) for token in tokens[2:]]))


def _key_in(token):
    column, _, way = token.partition(":")
    return (number_in(column), way)


def _number_node_in(tokens):
    return (tokens[0],) + _numbers_in(tokens[1:])


def _gather_in(tokens):
    folds = tuple([_fold_in(token) for token in tokens[3:]])
    return ("gather", number_in(tokens[1]), number_in(tokens[2]), folds)


def _fold_in(token):
    word, colon, column = token.partition(":")
    return (word,) if colon == "" else (word, number_in(column))


_READERS = {
    "read": _read_in,
    "map": _map_in,
    "keep": _keep_in,
    "carry": _carry_in,
    "sort": _sort_in,
    "gather": _gather_in,
    "look": _number_node_in,
    "both": _number_node_in,
    "beside": _number_node_in,
    "first": _number_node_in,
}
