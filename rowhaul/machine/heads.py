"""Runs that stand beside one another, and their heads."""

from rowhaul.machine.casts import keys_in, least_place
from rowhaul.machine.places import Places
from rowhaul.merges.trees import least_in


def run_names(store, part):
    """The names of the runs that a part cast, in order."""
    names = [name for name in store.names() if name[0] == "run" and name[1] == part]
    return tuple(sorted(names))


def merging_of(store, part, fan):
    """The pairs by which the runs of a part are merged ahead, so that at most as many as the fan stand."""
    lengths = tuple([store.how_many(name) for name in run_names(store, part)])
    if len(lengths) <= fan:
        return ()
    return least_in(lengths, fan)[1]


def standing(store, part, merging):
    """The names of the files that stand in the place of a part's runs behind the pairs of a merging."""
    names = run_names(store, part)
    for made, (first, many) in enumerate(merging):
        names = names[:first] + (("ahead", part, made),) + names[first + many:]
    return names


class Heads:
    """Runs of one part that are read side by side; the room holds the next record of each."""

    def __init__(self, scheme, part, names, store, held, reads):
        self._keys = keys_in(scheme.nodes, scheme.widths, part)
        self._runs = [(0, name) for name in names]
        self._places = Places(store, self._runs, reads)
        self._held = held
        self._holder = ("heads", part)

    def is_over(self):
        """Is all read and nothing a head?"""
        if self._held.held(self._holder) != ():
            return False
        return not any([self._places.has_more(run) for run in self._runs])

    def begin(self):
        """Read the first record of each run, where that isn't done yet."""
        if self._held.held(self._holder) == ():
            self._hold([self._next(run) for run in self._runs])

    def next_place(self):
        """The place of the least head, or None where there is none."""
        return least_place(self._keys, self._held.held(self._holder))

    def head(self, place):
        """The head at a place."""
        return self._held.held(self._holder)[place]

    def go_on(self, place):
        """Read the next record of a run in the place of its head."""
        heads = list(self._held.held(self._holder))
        heads[place] = self._next(self._runs[place])
        self._hold(heads)

    def reads(self):
        """How many records of each run are read."""
        return self._places.told()

    def _next(self, run):
        return self._places.take(run) if self._places.has_more(run) else ()

    def _hold(self, heads):
        is_empty = all([head == () for head in heads])
        self._held.hold(self._holder, () if is_empty else tuple(heads))
