"""What can be told of nodes by the nodes ahead of them: inputs, widths, mosts."""

_OF_TWO = ("look", "both", "beside")


def inputs_in(node):
    """The numbers of the nodes that a node reads: i, then j."""
    if node[0] == "read":
        return ()
    if node[0] in _OF_TWO:
        return (node[1], node[2])
    return (node[1],)


def width_in(node, widths):
    """The width of a node, by those of the nodes ahead."""
    if node[0] == "read":
        return len(node[2])
    if node[0] == "map":
        return len(node[2])
    if node[0] == "carry":
        return widths[node[1]] + 1
    if node[0] == "gather":
        return node[2] + len(node[3])
    if node[0] in ("look", "beside"):
        return widths[node[1]] + widths[node[2]]
    return widths[node[1]]


def most_in(node, mosts):
    """The most of a node, by those of the nodes ahead."""
    if node[0] == "read":
        return node[3]
    if node[0] == "both":
        return mosts[node[1]] + mosts[node[2]]
    if node[0] == "beside":
        return min(mosts[node[1]], mosts[node[2]])
    if node[0] == "first":
        return min(node[2], mosts[node[1]])
    return mosts[node[1]]


def widths_in(nodes):
    """The width of each node."""
    widths = []
    for node in nodes:
        widths.append(width_in(node, widths))
    return tuple(widths)


def mosts_in(nodes):
    """The most of each node."""
    mosts = []
    for node in nodes:
        mosts.append(most_in(node, mosts))
    return tuple(mosts)
