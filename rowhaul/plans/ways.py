"""The ways of a program, and its parts by ways."""

from rowhaul.errors import NoPass, NoWays
from rowhaul.knowing.orders import idle_in
from rowhaul.knowing.ranges import needed_in
from rowhaul.plans.schemes import Scheme
from rowhaul.programs.forms import check_program
from rowhaul.words.wholes import is_several, is_whole

_WAYS = {
    "sort": ("half", "quarter"),
    "look": ("kept", "blocked", "met"),
}

WAY_WORDS = ("half", "quarter", "kept", "blocked", "met")


def _choices(program):
    """Each node that has ways, with their words."""
    nodes, _ = program
    told = [(k, _WAYS[nodes[k][0]]) for k in needed_in(program) if nodes[k][0] in _WAYS]
    return [(k, words) for k, words in told if not idle_in(nodes, k)]


def all_ways(program):
    """All ways of a program, the last one's word changing first."""
    check_program(program)
    told = [()]
    for k, words in _choices(program):
        told = [ways + ((k, word),) for ways in told for word in words]
    return told


def is_ways(program, thing):
    """Are they ways of the program?"""
    check_program(program)
    choices = _choices(program)
    if not is_several(thing, len(choices), len(choices)):
        return False
    return all([_is_way(pair, k, words) for pair, (k, words) in zip(thing, choices)])


def _is_way(thing, k, words):
    """Is it this node with one of these words?"""
    return is_several(thing, 2, 2) and is_whole(thing[0]) and thing[0] == k and thing[1] in words


def scheme_of(program, ways):
    """The parts of a program by ways; what is none is refused."""
    if not is_ways(program, ways):
        raise NoWays("no ways of the program")
    return Scheme(program, ways)


def check_part(scheme, part):
    """Refuse what is no part."""
    if not scheme.is_part(part):
        raise NoPass("no part by these ways")


def parts_of(program, ways):
    """The parts of a program by ways, rising."""
    return scheme_of(program, ways).parts


def hangs_on(program, ways, part):
    """The parts that a part hangs on, rising."""
    scheme = scheme_of(program, ways)
    check_part(scheme, part)
    return scheme.hung_on(part)
