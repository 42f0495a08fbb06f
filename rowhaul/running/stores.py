"""The faults and the files that a state may have, by the passes that were done."""

from rowhaul.machine.flow import CASTS
from rowhaul.plans.passes import stored_in
from rowhaul.plans.sizes import MOST_RUNS, cast_width, most_coming
from rowhaul.programs.shapes import inputs_in

# The words by which a node falls.
_FALLS = {
    "map": ("nought", "great"),
    "keep": ("nought", "great"),
    "carry": ("nought", "great"),
    "gather": ("great",),
    "beside": ("uneven",),
}


def is_fault_of(scheme, passes, fault):
    """Is it a fault, of a form by itself, that a part of these passes may meet?"""
    k, number, word = fault
    if k not in [part[0] for one in passes for part in one] or word not in _FALLS.get(scheme.nodes[k][0], ()):
        return False
    mosts = [scheme.mosts[i] for i in inputs_in(scheme.nodes[k])]
    if word == "uneven":
        return 0 <= number <= min(mosts) and number < max(mosts)
    return 0 <= number < mosts[0]


def _parts_done(passes, first):
    """Of each pass the parts that it can have done: behind the one that met a fault none from its node on."""
    told = []
    is_behind = False
    for one in passes:
        told.append([part for part in one if not is_behind or part[0] < first[0]])
        is_behind = is_behind or (first != () and first[0] in [part[0] for part in one])
    return told


def _limits(scheme, passes, first, reads):
    """By its name, but for the number of a run: how wide each file may be, and the fewest and the most of its rows."""
    told = {("node", k): (scheme.widths[k], 0, scheme.mosts[k]) for k in reads}
    for one, parts in zip(passes, _parts_done(passes, first)):
        for k in stored_in(scheme, one):
            if scheme.maker_of(k) in parts:
                told[("node", k)] = (scheme.widths[k], 1, scheme.mosts[k])
        for part in parts:
            if part[1] in CASTS:
                told[("run", part)] = (cast_width(scheme, part), 1, most_coming(scheme, part))
    return told


def are_files_of(scheme, passes, first, reads, files):
    """Are they files, of a form each, that these passes can have made, and the tables of these reads?

    Those that merges ahead made are not looked at: which ones there must be, the phase tells.
    """
    limits = _limits(scheme, passes, first, reads)
    names = [name for name, _ in files]
    if not all([("node", k) in names for k in reads]):
        return False
    for name, rows in files:
        if name[0] != "ahead" and not (_is_in_row(name, names) and _is_within(limits, name, rows)):
            return False
    return True


def _is_in_row(name, names):
    """Is it no run, or one behind the one ahead of it?"""
    if name[0] != "run":
        return True
    _, part, number = name
    return 0 <= number < MOST_RUNS and (number == 0 or ("run", part, number - 1) in names)


def _is_within(limits, name, rows):
    """Are the rows of a file as its limits have them?"""
    if name[:2] not in limits:
        return False
    width, fewest, most = limits[name[:2]]
    return fewest <= len(rows) <= most and all([len(record) == width for record in rows])
