"""What parts need of a room: shares, sizes, fans. A room is told here by its quarter."""

from rowhaul.words.wholes import check_from

MOST_ROOM = 10 ** 6
MOST_RUNS = 16
LEAST_FAN = 2
MOST_QUARTERS = 3

_SHARES = {"left": 1, "right": 1, "merge": 1, "meet": 3, "block": 2}


def check_room(room):
    """Refuse what is no room."""
    check_from(room, 0, MOST_ROOM)


def share_in(scheme, part):
    """How many quarters of the room a part has for itself."""
    k, word = part
    if word == "cast":
        return 2 if scheme.chosen[k] == "half" else 1
    return _SHARES.get(word, 0)


def cast_width(scheme, part):
    """The width of the records that a part casts; those of a left and a meet bear a number behind."""
    k, word = part
    if word == "left":
        return scheme.widths[scheme.nodes[k][1]] + 1
    if word == "right":
        return scheme.widths[scheme.nodes[k][2]]
    return scheme.widths[k] + (1 if word == "meet" else 0)


def size_in(scheme, quarter, part):
    """How many records a part holds at a time, or None of one that holds none so."""
    word = part[1]
    if word == "block":
        return share_in(scheme, part) * quarter // scheme.widths[part[0]]
    if word == "cast":
        return share_in(scheme, part) * quarter // cast_width(scheme, part)
    if word in ("left", "right", "meet"):
        return quarter // cast_width(scheme, part)
    return None


def fan_in(scheme, quarter, part):
    """How many runs of each part whose runs it reads a part reads at a time."""
    return tuple([quarter // cast_width(scheme, caster) for caster in scheme.casters_of(part)])


def most_coming(scheme, part):
    """How many records come to a part at the most: to a meet what it joins, to another one its stream."""
    return scheme.mosts[part[0] if part[1] == "meet" else scheme.stream_of(part)]


def has_its_size(scheme, quarter, part):
    """Is the size of a part, if it has one, as it must be?"""
    size = size_in(scheme, quarter, part)
    if size is None:
        return True
    if size < 1:
        return False
    return part[1] == "block" or most_coming(scheme, part) <= MOST_RUNS * size


def has_its_fans(scheme, quarter, part):
    """Are the fans of a part, and the sizes of those whose runs it reads, as they must be?"""
    if any([fan < LEAST_FAN for fan in fan_in(scheme, quarter, part)]):
        return False
    return all([has_its_size(scheme, quarter, caster) for caster in scheme.casters_of(part)])
