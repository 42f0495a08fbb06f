"""What a program plainly tells: node by node, each done whole."""

from rowhaul.errors import Falls
from rowhaul.programs.forms import check_node, check_tables
from rowhaul.programs.shapes import inputs_in
from rowhaul.words.exprs import worth
from rowhaul.words.folds import folds_begun, folds_joined
from rowhaul.words.sorting import by_keys


def plain(program, tables):
    """The rows of the outputs, or the first fault."""
    check_tables(program, tables)
    nodes, outputs = program
    rows, fault = _done(nodes, tables)
    if fault is not None:
        return ("fault", fault)
    return ("rows", tuple([rows[node] for node in outputs]))


def counts_of(program, tables):
    """How many rows each node has, or None where the program faults."""
    check_tables(program, tables)
    rows, fault = _done(program[0], tables)
    if fault is not None:
        return None
    return tuple([len(part) for part in rows])


def rows_of(program, tables, node):
    """The rows of a node, or None where it or one ahead of it faults."""
    check_tables(program, tables)
    check_node(program, node)
    rows, fault = _done(program[0][:node + 1], tables)
    if fault is not None:
        return None
    return rows[node]


def _done(nodes, tables):
    """The rows of the nodes up to the first fault, and this fault or None."""
    rows = []
    for k, node in enumerate(nodes):
        if node[0] == "read":
            rows.append(tables[node[1]])
            continue
        do = _DOINGS[node[0]]
        told, fall = do(node, [rows[i] for i in inputs_in(node)])
        if fall is not None:
            number, word = fall
            return rows, (k, number, word)
        rows.append(told)
    return rows, None


# Each of these tells the rows of a node and None, or None and where and how it falls.

def _mapped(node, inputs):
    told = []
    for number, record in enumerate(inputs[0]):
        try:
            told.append(tuple([worth(expr, record) for expr in node[2]]))
        except Falls as fall:
            return None, (number, fall.word)
    return tuple(told), None


def _kept(node, inputs):
    told = []
    for number, record in enumerate(inputs[0]):
        try:
            if worth(node[2], record) != 0:
                told.append(record)
        except Falls as fall:
            return None, (number, fall.word)
    return tuple(told), None


def _carried(node, inputs):
    was = node[3]
    told = []
    for number, record in enumerate(inputs[0]):
        try:
            was = worth(node[2], record, was=was)
        except Falls as fall:
            return None, (number, fall.word)
        told.append(record + (was,))
    return tuple(told), None


def _sorted(node, inputs):
    return by_keys(node[2], inputs[0]), None


def _gathered(node, inputs):
    many = node[2]
    folds = node[3]
    told = []
    group = None
    held = ()
    for number, record in enumerate(inputs[0]):
        if record[:many] == group:
            try:
                held = folds_joined(folds, held, record)
            except Falls as fall:
                return None, (number, fall.word)
            continue
        if group is not None:
            told.append(group + held)
        group = record[:many]
        held = folds_begun(folds, record)
    if group is not None:
        told.append(group + held)
    return tuple(told), None


def _looked_up(node, inputs):
    c = node[3]
    d = node[4]
    firsts = {}
    for other in inputs[1]:
        firsts.setdefault(other[d], other)
    return tuple([record + firsts[record[c]] for record in inputs[0] if record[c] in firsts]), None


def _both(node, inputs):
    return inputs[0] + inputs[1], None


def _beside(node, inputs):
    one, other = inputs
    if len(one) != len(other):
        return None, (min(len(one), len(other)), "uneven")
    return tuple([left + right for left, right in zip(one, other)]), None


def _first(node, inputs):
    return inputs[0][:node[2]], None


_DOINGS = {
    "map": _mapped,
    "keep": _kept,
    "carry": _carried,
    "sort": _sorted,
    "gather": _gathered,
    "look": _looked_up,
    "both": _both,
    "beside": _beside,
    "first": _first,
}
