"""How many words a pass moves, by how many rows the nodes have."""

from rowhaul.errors import NoCounts, NoPass
from rowhaul.merges.costs import Merges
from rowhaul.plans.passes import driver_in, fits_in, is_pass_in, stored_in
from rowhaul.plans.plans import check_plan
from rowhaul.plans.schemes import Scheme
from rowhaul.plans.sizes import cast_width, check_room, fan_in, size_in
from rowhaul.plans.ways import scheme_of
from rowhaul.programs.forms import check_program
from rowhaul.programs.shapes import inputs_in, mosts_in
from rowhaul.words.wholes import is_from, is_several

_CASTS = ("cast", "left", "right", "meet")


def _check_counts(program, counts):
    """Refuse what are no counts of the nodes of a program."""
    mosts = mosts_in(program[0])
    if not is_several(counts, len(mosts), len(mosts)):
        raise NoCounts("no counts of the nodes")
    if not all([is_from(many, 0, most) for many, most in zip(counts, mosts)]):
        raise NoCounts("no counts of the nodes")


def _file_words(scheme, k, counts):
    """How many words the file of a node has."""
    return counts[k] * scheme.widths[k]


def _cast_many(scheme, part, counts):
    """How many records a part casts."""
    return counts[part[0] if part[1] == "meet" else scheme.stream_of(part)]


def _both_words(scheme, quarter, part, counts):
    """What a driver reads of its two inputs: of a block j once for each block."""
    i, j = inputs_in(scheme.nodes[part[0]])
    again = 1
    if part[1] == "block":
        # So many blocks, rounded up.
        again = -(-counts[i] // size_in(scheme, quarter, part))
    return _file_words(scheme, i, counts) + again * _file_words(scheme, j, counts)


def _runs_words(scheme, quarter, part, counts, merges):
    """What a driver reads of runs, and what is moved ahead of that till they can be read side by side."""
    words = 0
    for caster, fan in zip(scheme.casters_of(part), fan_in(scheme, quarter, part)):
        many = _cast_many(scheme, caster, counts)
        ahead = merges.moved_of(many, size_in(scheme, quarter, caster), fan)
        words += (many + 2 * ahead) * cast_width(scheme, caster)
    return words


def part_words(scheme, quarter, part, counts, merges):
    """How many words are moved of a part, but those of the rows that are written to files of nodes."""
    word = part[1]
    words = 0
    if word in _CASTS:
        words += _cast_many(scheme, part, counts) * cast_width(scheme, part)
    if word in ("merge", "meet"):
        words += _runs_words(scheme, quarter, part, counts, merges)
    if word in ("both", "beside", "block"):
        words += _both_words(scheme, quarter, part, counts)
    if scheme.kept_of(part) is not None:
        words += _file_words(scheme, scheme.kept_of(part), counts)
    return words


def files_words(scheme, one, counts):
    """How many words a pass moves beside those of its parts: of the file that it reads, of the nodes that it stores."""
    driver = driver_in(scheme, one)
    words = sum([_file_words(scheme, k, counts) for k in stored_in(scheme, one)])
    return words + (_file_words(scheme, driver[1], counts) if driver[0] == "file" else 0)


def words_in(scheme, quarter, one, counts):
    """How many words a pass moves."""
    merges = Merges()
    return files_words(scheme, one, counts) + sum(
        [part_words(scheme, quarter, part, counts, merges) for part in one])


def words_of(program, room, ways, one, counts):
    """How many words a pass that fits moves, where the nodes have so many rows."""
    check_program(program)
    check_room(room)
    scheme = scheme_of(program, ways)
    if not is_pass_in(scheme, one) or not fits_in(scheme, room, one):
        raise NoPass("no pass by these ways that fits")
    _check_counts(program, counts)
    return words_in(scheme, room // 4, one, counts)


def mosts_of(program):
    """The counts of the most rows of each node."""
    check_program(program)
    return mosts_in(program[0])


def plan_words(program, room, plan, *, counts=None):
    """How many words each pass of a plan moves, at the mosts where no counts are told."""
    check_plan(program, room, plan)
    if counts is not None:
        _check_counts(program, counts)
    ways, passes = plan
    told = mosts_in(program[0]) if counts is None else counts
    scheme = Scheme(program, ways)
    return tuple([words_in(scheme, room // 4, one, told) for one in passes])
