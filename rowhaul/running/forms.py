"""The forms of states, whatever program they are of."""

from rowhaul.machine.store import is_file_name, is_part_like
from rowhaul.words.exprs import is_record
from rowhaul.words.wholes import is_from, is_rising, is_several, is_whole

# How many things stand in a phase, by its word.
_SIZES = {"ahead": 3, "kept": 2, "drive": 1, "fill": 1, "hold": 1, "hand": 1, "close": 2, "end": 1}


def is_formed(thing):
    """Is it of the form of a state?"""
    if not is_several(thing, 7, 7):
        return False
    done, phase, reads, counts, held, store, lowest = thing
    if not is_whole(done) or done < 0 or not _is_phase(phase):
        return False
    if not _are_reads(reads) or not _are_counts(counts) or not _are_held(held) or not _are_files(store):
        return False
    return is_several(lowest, 2, 2) and all([part == () or _is_fault(part) for part in lowest])


def _is_phase(thing):
    if not isinstance(thing, tuple) or len(thing) == 0 or not isinstance(thing[0], str):
        return False
    if _SIZES.get(thing[0], 0) != len(thing):
        return False
    if len(thing) == 3 and not is_whole(thing[2]):
        return False
    return len(thing) == 1 or is_part_like(thing[1])


def _are_entries(thing, size):
    """Are they tuples of so many things?"""
    return isinstance(thing, tuple) and all([is_several(entry, size, size) for entry in thing])


def _are_reads(thing):
    if not _are_entries(thing, 3):
        return False
    if not all([is_from(side, 0, 1) and is_file_name(name) and is_whole(many) for side, name, many in thing]):
        return False
    return is_rising([(side, name) for side, name, _ in thing])


def _are_counts(thing):
    if not _are_entries(thing, 2):
        return False
    if not all([is_part_like(part) and is_whole(many) for part, many in thing]):
        return False
    return is_rising([part for part, _ in thing])


def _are_held(thing):
    if not _are_entries(thing, 2) or not all([_is_holder(holder) for holder, _ in thing]):
        return False
    if not all([isinstance(records, tuple) and len(records) > 0 for _, records in thing]):
        return False
    # A head is () where its run has no more.
    if not all([head == () or is_record(head) for _, records in thing for head in records]):
        return False
    return is_rising([holder for holder, _ in thing])


def _is_holder(thing):
    return is_several(thing, 2, 2) and isinstance(thing[0], str) and is_part_like(thing[1])


def _are_files(thing):
    if not _are_entries(thing, 2) or not all([is_file_name(name) for name, _ in thing]):
        return False
    if not all([isinstance(rows, tuple) and all([is_record(record) for record in rows]) for _, rows in thing]):
        return False
    return is_rising([name for name, _ in thing])


def _is_fault(thing):
    return is_several(thing, 3, 3) and is_whole(thing[0]) and is_whole(thing[1]) and isinstance(thing[2], str)
