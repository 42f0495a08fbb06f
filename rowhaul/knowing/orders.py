"""The order in which the rows of a node surely stand."""

from rowhaul.programs.forms import check_node


def order_of(program, node):
    """The pairs of a column and a way by which the rows of a node surely stand sorted."""
    check_node(program, node)
    return _order_in(program[0], node)


def is_idle(program, node):
    """Is it a sort whose input surely stands sorted by its keys already?"""
    check_node(program, node)
    return idle_in(program[0], node)


def idle_in(nodes, k):
    """Is the k-th node an idle sort?"""
    node = nodes[k]
    if node[0] != "sort":
        return False
    return _order_in(nodes, node[1])[:len(node[2])] == node[2]


def _order_in(nodes, k):
    """The known order of the k-th node."""
    node = nodes[k]
    if node[0] in ("read", "both"):
        return ()
    order = _order_in(nodes, node[1])
    if node[0] == "sort":
        return _sorted_order(node[2], order)
    if node[0] == "map":
        return _mapped_order(node[2], order)
    if node[0] == "gather":
        return _gathered_order(node[2], order)
    return order


def _sorted_order(keys, order):
    """The keys, then what stands of the order ahead among those alike in them."""
    columns = [column for column, _ in keys]
    return keys + tuple([(column, way) for column, way in order if column not in columns])


def _mapped_order(exprs, order):
    """The order as far as the expressions copy its columns."""
    told = []
    for column, way in order:
        if ("at", column) not in exprs:
            break
        told.append((exprs.index(("at", column)), way))
    return tuple(told)


def _gathered_order(many, order):
    """The order as far as its columns are among the first many."""
    told = []
    for column, way in order:
        if column >= many:
            break
        told.append((column, way))
    return tuple(told)
