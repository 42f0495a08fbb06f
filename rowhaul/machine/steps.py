"""Steps: what a node does with each record that comes, and what it holds from one to the next."""

from rowhaul.errors import Falls, NoNode
from rowhaul.programs.forms import check_node
from rowhaul.words.exprs import worth
from rowhaul.words.folds import folds_begun, folds_joined

_STEPS = ("map", "keep", "carry", "gather", "first", "sort", "look")


def begun_in(node):
    """What a step holds at first."""
    return ((node[3],),) if node[0] == "carry" else ()


def stepped_in(node, held, record, number, table):
    """What a step holds and hands on when a record has come, or the word by which it falls."""
    do = _DOINGS[node[0]]
    try:
        return do(node, held, record, number, table)
    except Falls as fall:
        return ("fault", fall.word)


def ended_in(node, held):
    """What a step hands on at the close, or None."""
    return held[0] if node[0] == "gather" and len(held) > 0 else None


# Each of these takes the node, what is held, the record, its number, and the table.

def _mapped(node, held, record, number, table):
    return ("on", held, tuple([worth(expr, record) for expr in node[2]]))


def _kept(node, held, record, number, table):
    return ("on", held, record if worth(node[2], record) != 0 else None)


def _carried(node, held, record, number, table):
    was = worth(node[2], record, was=held[0][0])
    return ("on", ((was,),), record + (was,))


def _gathered(node, held, record, number, table):
    many = node[2]
    group = record[:many]
    if len(held) > 0 and held[0][:many] == group:
        return ("on", (group + folds_joined(node[3], held[0][many:], record),), None)
    return ("on", (group + folds_begun(node[3], record),), held[0] if len(held) > 0 else None)


def _passed_on(node, held, record, number, table):
    return ("on", held, record)


def _first(node, held, record, number, table):
    return ("on", held, record if number < node[2] else None)


def _looked_up(node, held, record, number, table):
    for other in table:
        if other[node[4]] == record[node[3]]:
            return ("on", held, record + other)
    return ("on", held, None)


_DOINGS = {
    "map": _mapped,
    "keep": _kept,
    "carry": _carried,
    "gather": _gathered,
    "first": _first,
    "sort": _passed_on,
    "look": _looked_up,
}


def _step_of(program, k):
    """The node of this number; what is none that steps is refused."""
    check_node(program, k)
    node = program[0][k]
    if node[0] not in _STEPS:
        raise NoNode(k)
    return node


def step_begin(program, k):
    """The records that a step holds at first."""
    return begun_in(_step_of(program, k))


def stepped(program, k, held, record, number, *, table=()):
    """`("on", held, record or None)`, or `("fault", word)`."""
    return stepped_in(_step_of(program, k), held, record, number, table)


def step_end(program, k, held):
    """The record that a step hands on at the close, or None."""
    return ended_in(_step_of(program, k), held)
