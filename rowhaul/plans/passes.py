"""Passes: which parts are one, what drives it, what it stores, what it needs of a room."""

from rowhaul.errors import NoPass
from rowhaul.plans.schemes import is_driver
from rowhaul.plans.sizes import MOST_QUARTERS, check_room, fan_in, has_its_fans, has_its_size, share_in, size_in
from rowhaul.plans.ways import check_part, scheme_of
from rowhaul.programs.forms import check_program
from rowhaul.words.wholes import is_rising

# What these hand on is under way by itself; all else hands on what is held already, or nothing.
_UNDER_WAY = ("map", "carry", "gather", "look", "both", "beside")


def is_pass_in(scheme, thing):
    """Is it a pass?"""
    if not isinstance(thing, tuple) or not all([scheme.is_part(part) for part in thing]) or not is_rising(thing):
        return False
    made = scheme.made_in(thing)
    if any([scheme.kept_of(part) in made for part in thing]):
        return False
    drivers = [part for part in thing if is_driver(part)]
    files = _files_of(scheme, thing)
    if len(drivers) == 0:
        return len(files) == 1
    # A meet makes no node, so whatever stood beside it would have a stream of some file.
    return len(drivers) == 1 and len(files) == 0


def _files_of(scheme, one):
    """The nodes that are a stream in some parts, but aren't made in them."""
    made = scheme.made_in(one)
    streams = [scheme.stream_of(part) for part in one if not is_driver(part)]
    return sorted({k for k in streams if k not in made})


def driver_in(scheme, one):
    """The part that drives a pass, or the node of which it reads the file."""
    for part in one:
        if is_driver(part):
            return part
    return ("file", _files_of(scheme, one)[0])


def stored_in(scheme, one):
    """The nodes made in a pass that are read behind it, rising."""
    wanted = list(scheme.outputs)
    for part in scheme.parts:
        if part not in one:
            wanted.extend(scheme.read_by(part))
    return tuple([k for k in scheme.made_in(one) if k in wanted])


def quarters_in(scheme, one):
    """The shares of a pass, in quarters."""
    return sum([share_in(scheme, part) for part in one])


def fixed_in(scheme, one):
    """How many words a pass holds at the most beside its shares."""
    return sum([_always_held(scheme, part) for part in one]) + max([_on_the_way(scheme, one, part) for part in one])


def _always_held(scheme, part):
    """How many words a part may hold all the time."""
    k, word = part
    node = scheme.nodes[k]
    if word == "block":
        return scheme.widths[node[2]]
    if word == "meet":
        return scheme.widths[node[2]] + scheme.widths[k] + 1
    if word != "step":
        return 0
    if node[0] == "look":
        return scheme.mosts[node[2]] * scheme.widths[node[2]]
    if node[0] == "gather":
        return scheme.widths[k]
    return 1 if node[0] == "carry" else 0


def _on_the_way(scheme, one, part):
    """How many words are under way, from the driver up to what a part hands on."""
    k, word = part
    own = scheme.widths[k] if word in ("step", "both", "beside") and scheme.nodes[k][0] in _UNDER_WAY else 0
    if is_driver(part):
        return own
    stream = scheme.stream_of(part)
    maker = scheme.maker_of(stream)
    if maker in one:
        return own + _on_the_way(scheme, one, maker)
    return own + scheme.widths[stream]


def fits_in(scheme, room, one):
    """Does a pass fit in a room?"""
    quarter = room // 4
    if quarters_in(scheme, one) > MOST_QUARTERS or fixed_in(scheme, one) > quarter:
        return False
    return all([has_its_size(scheme, quarter, part) and has_its_fans(scheme, quarter, part) for part in one])


def told_in(scheme, room, one):
    """How many words of a room a pass holds at the most."""
    return quarters_in(scheme, one) * (room // 4) + fixed_in(scheme, one)


def _checked(scheme, one):
    """The parts by ways, where these are a pass of them; what is none is refused."""
    if not is_pass_in(scheme, one):
        raise NoPass("no pass by these ways")
    return scheme


def _scheme_in(program, room, ways):
    """The parts by ways; what is no program, no room, no ways is refused, in this order."""
    check_program(program)
    check_room(room)
    return scheme_of(program, ways)


def is_pass(program, ways, thing):
    """Is it a pass by these ways, be it that it fits or not?"""
    return is_pass_in(scheme_of(program, ways), thing)


def driver_of(program, ways, one):
    """The part that drives a pass, or `("file", v)`."""
    return driver_in(_checked(scheme_of(program, ways), one), one)


def stored_of(program, ways, one):
    """The nodes that a pass writes to files, rising."""
    return stored_in(_checked(scheme_of(program, ways), one), one)


def quarters(program, ways, one):
    """How many quarters of a room the shares of a pass are."""
    return quarters_in(_checked(scheme_of(program, ways), one), one)


def fixed(program, ways, one):
    """How many words a pass holds at the most beside its shares."""
    return fixed_in(_checked(scheme_of(program, ways), one), one)


def fits(program, room, ways, one):
    """Does a pass fit in a room?"""
    return fits_in(_checked(_scheme_in(program, room, ways), one), room, one)


def told_room(program, room, ways, one):
    """How many words of a room a pass holds at the most."""
    return told_in(_checked(_scheme_in(program, room, ways), one), room, one)


def size_of(program, room, ways, part):
    """How many records a part holds at a time, or None of one that holds none so."""
    scheme = _scheme_in(program, room, ways)
    check_part(scheme, part)
    return size_in(scheme, room // 4, part)


def fan_of(program, room, ways, part):
    """How many runs a part reads at a time, of each part whose runs it reads."""
    scheme = _scheme_in(program, room, ways)
    check_part(scheme, part)
    return fan_in(scheme, room // 4, part)
