"""Closed sets of parts: with each part they have all that it hangs on."""

from rowhaul.errors import TooWide
from rowhaul.plans.ways import scheme_of

MOST_SETS = 60


def closed_in(scheme):
    """All closed sets of parts, rising; or TooWide where there are too many."""
    seen = {(): True}
    todo = [()]
    while len(todo) > 0:
        one = todo.pop()
        for more in _with_one_more(scheme, one):
            if more not in seen:
                seen[more] = True
                todo.append(more)
        if len(seen) > MOST_SETS:
            raise TooWide("too many closed sets of parts")
    return tuple(sorted(seen))


def _with_one_more(scheme, one):
    """The closed sets that have one part more: each closed set is come to so, part by part."""
    told = []
    for part in scheme.parts:
        if part not in one and all([hung in one for hung in scheme.hung_on(part)]):
            told.append(tuple(sorted(one + (part,))))
    return told


def closed_sets(program, ways):
    """All closed sets of parts by ways, rising; or TooWide where there are too many."""
    return closed_in(scheme_of(program, ways))
