"""States of runs: what is one."""

from rowhaul.machine.places import rows_there
from rowhaul.plans.plans import check_plan
from rowhaul.plans.schemes import Scheme
from rowhaul.plans.sizes import size_in
from rowhaul.running.files import needed_reads
from rowhaul.running.forms import is_formed
from rowhaul.running.spots import Spot
from rowhaul.running.stores import are_files_of, is_fault_of


def is_state(program, room, plan, thing):
    """Is it a state of a run by a plan?"""
    check_plan(program, room, plan)
    ways, passes = plan
    if not is_formed(thing) or thing[0] > len(passes):
        return False
    done = thing[0]
    first, own = thing[6]
    scheme = Scheme(program, ways)
    if first != () and not is_fault_of(scheme, passes[:done], first):
        return False
    if own != () and not is_fault_of(scheme, passes[done:done + 1], own):
        return False
    if first != () and own != () and own[0] >= first[0]:
        return False
    if not are_files_of(scheme, passes[:done + 1], first, needed_reads(program), thing[5]):
        return False
    if done == len(passes):
        return _is_end(thing)
    return _is_at_hand(Spot(scheme, room, passes[done], thing), thing[5])


def _is_end(thing):
    """Does a state behind all passes tell of none at hand?"""
    _, phase, reads, counts, held, files, _ = thing
    if phase != ("end",) or any([name[0] == "ahead" for name, _ in files]):
        return False
    return reads == () and counts == () and held == ()


def _is_at_hand(spot, files):
    """Does a state tell of a turn of the pass at hand?"""
    if len(spot.parts) == 0 or not spot.has_counts():
        return False
    word = spot.stage[0]
    # Nothing is handed on ahead of the drive, so nothing can have fallen.
    if word in ("ahead", "kept") and spot.own != ():
        return False
    if word == "ahead" and not _is_pair(spot):
        return False
    if not spot.has_ahead(files):
        return False
    if word == "drive":
        word = "file" if spot.driver[0] == "file" else spot.driver[1]
    if word not in _PHASES:
        return False
    is_such = _PHASES[word]
    return is_such(spot)


def _is_pair(spot):
    """Does a phase ahead tell of a pair of runs of a part that the driver reads?"""
    _, part, pairs = spot.stage
    return part in [caster for caster, _ in spot.casters()] and 0 <= pairs < len(spot.merging(part))


def _heads_entries(spot, casters):
    """What the heads of the runs of some parts may be, or None where these heads can't be."""
    is_begun = any([spot.places[key] > 0 for key in spot.places])
    if not all([_are_heads(spot, caster, is_begun) for caster in casters]):
        return None
    if is_begun and all([spot.heads(caster) == () for caster in casters]):
        return None
    # Each head is looked at here, so what is there is as wide as it must be.
    return [(("heads", caster), 0, len(spot.heads(caster)), [len(head) for head in spot.heads(caster)])
            for caster in casters]


def _are_heads(spot, caster, is_begun):
    """Are the heads of a part's runs the records last read, and () only where a run has no more?"""
    heads = spot.heads(caster)
    names = spot.runs(caster)
    if not is_begun:
        return heads == ()
    if heads == ():
        return not any([spot.has_more((0, name)) for name in names])
    if len(heads) != len(names) or all([head == () for head in heads]):
        return False
    return all([_is_head(spot, (0, name), head) for name, head in zip(names, heads)])


def _is_head(spot, key, head):
    if head == ():
        return not spot.has_more(key)
    many = spot.places[key]
    return many > 0 and spot.store.rows_in(key[1])[many - 1] == head


def _is_ahead(spot):
    caster = spot.stage[1]
    if not spot.has_places([(0, name) for name in spot.runs(caster)]):
        return False
    heads = _heads_entries(spot, [caster])
    return heads is not None and spot.has_held(spot.carries() + heads)


def _is_kept(spot):
    part = spot.stage[1]
    if part not in spot.on or spot.scheme.kept_of(part) is None:
        return False
    key = (0, ("node", spot.scheme.kept_of(part)))
    if not spot.has_places([key]) or not spot.has_more(key):
        return False
    ahead = [entry for entry in spot.tables() if entry[0] < ("kept", part)]
    return spot.has_held(spot.carries() + ahead + [spot.table(part, spot.places[key])])


def _is_driven(spot, entries):
    """Is what is held what may be held in the drive, the driver's as told by some entries?"""
    return spot.has_held(spot.carries() + spot.tables() + spot.flowing(spot.on) + entries)


def _is_file(spot):
    key = (0, ("node", spot.driver[1]))
    return spot.has_places([key]) and spot.has_more(key) and _is_driven(spot, [])


def _input_keys(spot):
    """The files of the driver's inputs, i's and j's."""
    return [(side, ("node", k)) for side, k in enumerate(spot.inputs())]


def _is_both(spot):
    one, other = _input_keys(spot)
    if not spot.has_places([one, other]):
        return False
    # None of j is read as long as i has more.
    if spot.has_more(one):
        return spot.places[other] == 0 and _is_driven(spot, [])
    return spot.has_more(other) and _is_driven(spot, [])


def _is_beside(spot):
    one, other = _input_keys(spot)
    if not spot.has_places([one, other]) or spot.driver not in spot.on:
        return False
    if spot.places[one] != spot.places[other] or not spot.has_more(one):
        return False
    return rows_there(spot.store, one[1]) == rows_there(spot.store, other[1]) and _is_driven(spot, [])


def _is_merge(spot):
    caster = spot.scheme.casters_of(spot.driver)[0]
    names = spot.runs(caster)
    if len(names) == 0 or not spot.has_places([(0, name) for name in names]):
        return False
    heads = _heads_entries(spot, [caster])
    return heads is not None and _is_driven(spot, heads)


def _is_meet(spot):
    left, right = spot.scheme.casters_of(spot.driver)
    names = spot.runs(left) + spot.runs(right)
    if len(names) == 0 or not spot.has_places([(0, name) for name in names]):
        return False
    heads = _heads_entries(spot, [left, right])
    if heads is None:
        return False
    # What is found was taken ahead.
    most = 1 if spot.taken(right) > 0 else 0
    found = (("found", spot.driver), 0, most, (spot.scheme.widths[spot.inputs()[1]],))
    return _is_driven(spot, heads + [found])


def _is_block(spot, fewest, most, is_joined):
    """Is the block as long as it may be, and only where it may be joined to j's?"""
    width = spot.scheme.widths[spot.inputs()[0]]
    widths = (width, spot.scheme.widths[spot.driver[0]]) if is_joined else (width,)
    return _is_driven(spot, [(("block", spot.driver), fewest, most, widths)])


def _block_keys(spot):
    """The files that a block reads; None where the driver is no block, or they aren't read within them."""
    if spot.driver[1] != "block" or not spot.has_places(_input_keys(spot)):
        return None
    return _input_keys(spot)


def _block_size(spot):
    return size_in(spot.scheme, spot.room // 4, spot.driver)


def _is_fill(spot):
    keys = _block_keys(spot)
    if keys is None or not spot.has_more(keys[0]) or spot.places[keys[1]] != 0:
        return False
    return _is_block(spot, 0, _block_size(spot) - 1, False)


def _is_hold(spot):
    keys = _block_keys(spot)
    if keys is None or not spot.has_more(keys[1]):
        return False
    # As long as i has more the block is filled up ahead.
    fewest = _block_size(spot) if spot.has_more(keys[0]) else 1
    return _is_block(spot, fewest, _block_size(spot), spot.places[keys[1]] > 0)


def _is_hand(spot):
    keys = _block_keys(spot)
    if keys is None or spot.has_more(keys[1]):
        return False
    return _is_block(spot, 1, _block_size(spot), spot.places[keys[1]] > 0)


def _is_close(spot):
    part = spot.stage[1]
    if not spot.has_places([]) or not spot.has_close(part):
        return False
    behind = [other for other in spot.on if other >= part]
    return spot.has_held(spot.carries() + spot.tables() + spot.flowing(behind))


_PHASES = {
    "ahead": _is_ahead,
    "kept": _is_kept,
    "file": _is_file,
    "both": _is_both,
    "beside": _is_beside,
    "merge": _is_merge,
    "meet": _is_meet,
    "fill": _is_fill,
    "hold": _is_hold,
    "hand": _is_hand,
    "close": _is_close,
}
