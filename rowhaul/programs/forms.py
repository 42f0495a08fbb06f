"""Programs and the tables of programs: what is one, and how wide and long their nodes are."""

from rowhaul.errors import NoNode, NoProgram, NoTables
from rowhaul.programs.shapes import inputs_in, most_in, mosts_in, width_in, widths_in
from rowhaul.words.exprs import is_expr, is_record, is_word
from rowhaul.words.folds import is_fold
from rowhaul.words.wholes import is_from, is_rising, is_several

MOST_NODES = 10
MOST_WIDTH = 8
MOST_ROWS = 400

_MOST_READ = 200
_MOST_RANGES = 4
_MOST_KEYS = 4
_MOST_FOLDS = 4
_MOST_SIGNS = 8
_MOST_TURNED = 3
_LETTERS = "abcdefghijklmnopqrstuvwxyz"

# How many parts a node has, its word counted.
_SIZES = {
    "read": 4,
    "map": 3,
    "keep": 3,
    "carry": 4,
    "sort": 3,
    "gather": 4,
    "look": 5,
    "both": 3,
    "beside": 3,
    "first": 3,
}


def is_program(thing):
    """Is it a program?"""
    if not is_several(thing, 2, 2):
        return False
    nodes, outputs = thing
    return _are_nodes(nodes) and _are_outputs(outputs, len(nodes))


def _are_outputs(thing, many):
    """Are they rising, unlike numbers of so many nodes?"""
    if not is_several(thing, 1, many):
        return False
    return all([is_from(part, 0, many - 1) for part in thing]) and is_rising(thing)


def _are_nodes(thing):
    """Are they the nodes of a program?"""
    if not is_several(thing, 1, MOST_NODES):
        return False
    widths = []
    mosts = []
    for node in thing:
        if not _is_node(node, widths):
            return False
        widths.append(width_in(node, widths))
        mosts.append(most_in(node, mosts))
        if widths[-1] > MOST_WIDTH or mosts[-1] > MOST_ROWS:
            return False
    names = [node[1] for node in thing if node[0] == "read"]
    turned = [node for node in thing if node[0] in ("sort", "look")]
    return len(set(names)) == len(names) and len(turned) <= _MOST_TURNED


def _is_node(thing, widths):
    """Is it of the form of a node behind nodes of these widths?"""
    if not isinstance(thing, tuple) or len(thing) == 0 or not isinstance(thing[0], str):
        return False
    if thing[0] not in _FORMS or len(thing) != _SIZES[thing[0]]:
        return False
    check = _FORMS[thing[0]]
    return check(thing, widths)


def _is_input(thing, widths):
    """Is it the number of a node ahead?"""
    return is_from(thing, 0, len(widths) - 1)


def is_name(thing):
    """Is it a name of a table?"""
    if not isinstance(thing, str) or not 1 <= len(thing) <= _MOST_SIGNS:
        return False
    return all([sign in _LETTERS for sign in thing])


def is_range(thing):
    """Is it a pair of words, the low one no more than the high one?"""
    return is_several(thing, 2, 2) and is_word(thing[0]) and is_word(thing[1]) and thing[0] <= thing[1]


def _is_read(node, widths):
    _, name, ranges, most = node
    if not is_name(name) or not is_several(ranges, 1, _MOST_RANGES):
        return False
    return all([is_range(part) for part in ranges]) and is_from(most, 0, _MOST_READ)


def _is_map(node, widths):
    _, i, exprs = node
    if not _is_input(i, widths) or not is_several(exprs, 1, MOST_WIDTH):
        return False
    return all([is_expr(expr, widths[i]) for expr in exprs])


def _is_keep(node, widths):
    _, i, expr = node
    return _is_input(i, widths) and is_expr(expr, widths[i])


def _is_carry(node, widths):
    _, i, expr, begin = node
    return _is_input(i, widths) and is_expr(expr, widths[i], carried=True) and is_word(begin)


def _is_sort(node, widths):
    _, i, keys = node
    if not _is_input(i, widths) or not is_several(keys, 1, _MOST_KEYS):
        return False
    if not all([_is_key(key, widths[i]) for key in keys]):
        return False
    return len({column for column, way in keys}) == len(keys)


def _is_key(thing, width):
    """Is it a column and a way?"""
    return is_several(thing, 2, 2) and is_from(thing[0], 0, width - 1) and thing[1] in ("up", "down")


def _is_gather(node, widths):
    _, i, many, folds = node
    if not _is_input(i, widths) or not is_from(many, 0, widths[i]) or not is_several(folds, 0, _MOST_FOLDS):
        return False
    return all([is_fold(fold, widths[i]) for fold in folds]) and many + len(folds) >= 1


def _is_look(node, widths):
    _, i, j, c, d = node
    if not _is_input(i, widths) or not _is_input(j, widths):
        return False
    return is_from(c, 0, widths[i] - 1) and is_from(d, 0, widths[j] - 1)


def _is_both(node, widths):
    _, i, j = node
    return _is_input(i, widths) and _is_input(j, widths) and widths[i] == widths[j]


def _is_beside(node, widths):
    _, i, j = node
    return _is_input(i, widths) and _is_input(j, widths)


def _is_first(node, widths):
    _, i, n = node
    return _is_input(i, widths) and is_from(n, 0, MOST_ROWS)


_FORMS = {
    "read": _is_read,
    "map": _is_map,
    "keep": _is_keep,
    "carry": _is_carry,
    "sort": _is_sort,
    "gather": _is_gather,
    "look": _is_look,
    "both": _is_both,
    "beside": _is_beside,
    "first": _is_first,
}


def check_program(program):
    """Refuse what is no program."""
    if not is_program(program):
        raise NoProgram("no program")


def check_node(program, node):
    """Refuse what is no program, then what is no node of it."""
    check_program(program)
    if not is_from(node, 0, len(program[0]) - 1):
        raise NoNode(node)


def check_tables(program, tables):
    """Refuse what is no program, then what are no tables of it."""
    if not is_tables(program, tables):
        raise NoTables("no tables of the program")


def width_of(program, node):
    """How many columns a node has."""
    check_node(program, node)
    return widths_in(program[0])[node]


def most_of(program, node):
    """How many rows a node has at the most."""
    check_node(program, node)
    return mosts_in(program[0])[node]


def inputs_of(program, node):
    """The numbers of the nodes that a node reads: i, then j."""
    check_node(program, node)
    return inputs_in(program[0][node])


def is_rows(thing):
    """Are they rows, of one width, and no more than a node may have?"""
    if not is_several(thing, 0, MOST_ROWS) or not all([is_record(record) for record in thing]):
        return False
    return all([len(record) == len(thing[0]) for record in thing])


def is_tables(program, thing):
    """Are they tables of the program?"""
    check_program(program)
    if not isinstance(thing, dict):
        return False
    return all([_has_table(node, thing) for node in program[0] if node[0] == "read"])


def _has_table(node, tables):
    """Is there a table of the name that a read reads, with just such rows?"""
    _, name, ranges, most = node
    if name not in tables or not is_several(tables[name], 0, most):
        return False
    return all([_is_row(ranges, record) for record in tables[name]])


def _is_row(ranges, thing):
    """Is it a record with each column in its range?"""
    if not is_several(thing, len(ranges), len(ranges)):
        return False
    return all([is_from(word, low, high) for word, (low, high) in zip(thing, ranges)])
