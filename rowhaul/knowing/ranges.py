"""The ranges of nodes, papers of ranges, safe nodes and needed ones."""

from rowhaul.knowing.spans import expr_span, is_in, joined, words_span
from rowhaul.programs.forms import check_program, is_range
from rowhaul.programs.shapes import inputs_in, mosts_in, widths_in
from rowhaul.words.exprs import LEAST_WORD, MOST_WORD
from rowhaul.words.wholes import is_several

_MOST_JOININGS = 4


def ranges_of(program):
    """The ranges of the columns of each node, as a paper."""
    check_program(program)
    return _paper_of(program[0])


def _paper_of(nodes):
    """The ranges of the columns of each of these nodes."""
    mosts = mosts_in(nodes)
    paper = []
    for node in nodes:
        paper.append(_ranges_in(node, paper, mosts))
    return tuple(paper)


def _ranges_in(node, paper, mosts):
    """The ranges of a node by those of its inputs in the paper."""
    if node[0] == "read":
        return node[2]
    ranges = paper[node[1]]
    if node[0] == "map":
        return tuple([expr_span(expr, ranges)[0] for expr in node[2]])
    if node[0] == "carry":
        return ranges + (_carried_span(node, ranges),)
    if node[0] == "gather":
        return ranges[:node[2]] + tuple([_fold_span(fold, ranges, mosts[node[1]])[0] for fold in node[3]])
    if node[0] in ("look", "beside"):
        return ranges + paper[node[2]]
    if node[0] == "both":
        return tuple([joined(one, other) for one, other in zip(ranges, paper[node[2]])])
    return ranges


def _carried_span(node, ranges):
    """The range that what was comes to."""
    was = (node[3], node[3])
    for _ in range(_MOST_JOININGS):
        told = expr_span(node[2], ranges, was)[0]
        if is_in(told, was):
            return was
        was = joined(was, told)
    told = expr_span(node[2], ranges, was)[0]
    return was if is_in(told, was) else (LEAST_WORD, MOST_WORD)


def _fold_span(fold, ranges, most):
    """The range of a fold over so many records at the most, and whether it may fall."""
    records = max(1, most)
    if fold[0] == "count":
        return (1, records), False
    low, high = ranges[fold[1]]
    if fold[0] == "sum":
        return words_span([low, low * records, high, high * records])
    return (low, high), False


def _may_fall(node, paper, own, mosts):
    """May a node of these own ranges fault, by the ranges of its inputs in the paper?"""
    if node[0] == "beside":
        return True
    if node[0] == "map":
        return any([expr_span(expr, paper[node[1]])[1] for expr in node[2]])
    if node[0] == "keep":
        return expr_span(node[2], paper[node[1]])[1]
    if node[0] == "carry":
        return expr_span(node[2], paper[node[1]], own[-1])[1]
    if node[0] == "gather":
        return any([_fold_span(fold, paper[node[1]], mosts[node[1]])[1] for fold in node[3]])
    return False


def _safe_by(nodes, paper):
    """The nodes that are safe by a paper."""
    mosts = mosts_in(nodes)
    return tuple([k for k, node in enumerate(nodes) if not _may_fall(node, paper, paper[k], mosts)])


def shows_ranges(program, thing):
    """The nodes that are safe by a closed paper, or None of what is none."""
    check_program(program)
    nodes, _ = program
    if not _is_paper(nodes, thing):
        return None
    mosts = mosts_in(nodes)
    if not all([_is_closed(node, thing, own, mosts) for node, own in zip(nodes, thing)]):
        return None
    return _safe_by(nodes, thing)


def _is_paper(nodes, thing):
    """Is it of the form of a paper?"""
    if not is_several(thing, len(nodes), len(nodes)):
        return False
    return all([_are_ranges(part, width) for part, width in zip(thing, widths_in(nodes))])


def _are_ranges(thing, width):
    return is_several(thing, width, width) and all([is_range(part) for part in thing])


def _is_closed(node, paper, own, mosts):
    """Do a node's own ranges have within them what the rules make of its inputs' in the paper?"""
    if node[0] == "carry":
        made = paper[node[1]] + (_carried_once(node, paper[node[1]], own[-1]),)
    else:
        made = _ranges_in(node, paper, mosts)
    return all([is_in(one, other) for one, other in zip(made, own)])


def _carried_once(node, ranges, was):
    """Begin, and the worth's range by this one of what was."""
    told = expr_span(node[2], ranges, was)[0]
    return joined(told, (node[3], node[3]))


def safe_nodes(program):
    """The nodes that surely never fault."""
    check_program(program)
    nodes, _ = program
    return _safe_by(nodes, _paper_of(nodes))


def needed(program):
    """The outputs, the nodes that aren't safe, and all on which these hang."""
    check_program(program)
    return needed_in(program)


def needed_in(program):
    """The nodes that are needed of a program that is one."""
    nodes, outputs = program
    safe = _safe_by(nodes, _paper_of(nodes))
    wanted = [k in outputs or k not in safe for k in range(len(nodes))]
    for k, node in reversed(list(enumerate(nodes))):
        if wanted[k]:
            for i in inputs_in(node):
                wanted[i] = True
    return tuple([k for k, is_wanted in enumerate(wanted) if is_wanted])
