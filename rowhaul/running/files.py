"""The files that passes read and make."""

from rowhaul.knowing.ranges import needed_in
from rowhaul.machine.store import Store
from rowhaul.plans.passes import driver_in, stored_in


def needed_reads(program):
    """The needed nodes that are reads."""
    return [k for k in needed_in(program) if program[0][k][0] == "read"]


def begun_store(program, tables):
    """The store with the tables of all needed reads."""
    return Store(tuple([(("node", k), tables[program[0][k][1]]) for k in needed_reads(program)]))


def nodes_read(scheme, parts):
    """The nodes whose files a pass of these parts reads."""
    driver = driver_in(scheme, parts)
    nodes = [driver[1]] if driver[0] == "file" else list(scheme.read_by(driver))
    return nodes + [scheme.kept_of(part) for part in parts if scheme.kept_of(part) is not None]


def casters_read(scheme, parts):
    """The parts whose runs a pass of these parts reads."""
    driver = driver_in(scheme, parts)
    return () if driver[0] == "file" else scheme.casters_of(driver)


def files_read(scheme, parts, store):
    """The files that a pass of these parts reads, with their rows; a node's that the store lacks has none."""
    files = {name: rows for name, rows in store.files()}
    casters = casters_read(scheme, parts)
    told = {name: files[name] for name in files if name[0] == "run" and name[1] in casters}
    for k in nodes_read(scheme, parts):
        told[("node", k)] = files.get(("node", k), ())
    return tuple([(name, told[name]) for name in sorted(told)])


def files_made(scheme, one, store):
    """The files in a store that a pass makes."""
    return tuple([(name, rows) for name, rows in store.files() if _is_made(scheme, one, name)])


def _is_made(scheme, one, name):
    """Is it the name of a file that a pass makes?"""
    if name[0] == "node":
        return name[1] in stored_in(scheme, one)
    return name[1] in (one if name[0] == "run" else casters_read(scheme, one))
