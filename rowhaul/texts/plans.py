"""Plans as texts."""

from rowhaul.errors import NoText
from rowhaul.plans.plans import check_plan
from rowhaul.plans.schemes import PART_WORDS
from rowhaul.plans.sizes import check_room
from rowhaul.plans.ways import WAY_WORDS
from rowhaul.programs.forms import check_program
from rowhaul.texts.numbers import number_in


def plan_text(program, room, plan):
    """The text of a plan."""
    check_plan(program, room, plan)
    ways, passes = plan
    return "\n".join([_line("ways", ways)] + [_line("pass", one) for one in passes])


def _line(word, pairs):
    """A word, then pairs of a number and a word."""
    return " ".join([word] + [str(k) + ":" + name for k, name in pairs])


def read_plan(program, room, text):
    """The plan that is just so written; or NoText with the first line of no form; or NoPlan."""
    check_program(program)
    check_room(room)
    if not isinstance(text, str):
        raise NoText(0)
    told = []
    for number, line in enumerate(text.split("\n")):
        pairs = _pairs_in(line, "ways", WAY_WORDS) if number == 0 else _pairs_in(line, "pass", PART_WORDS)
        if pairs is None or (number > 0 and len(pairs) == 0):
            raise NoText(number)
        told.append(pairs)
    plan = (told[0], tuple(told[1:]))
    check_plan(program, room, plan)
    return plan


def _pairs_in(line, word, names):
    """The pairs of a line of this word, or None of what isn't one; each pair has one of these names."""
    tokens = line.split(" ")
    if tokens[0] != word:
        return None
    pairs = [_pair_in(token, names) for token in tokens[1:]]
    return None if None in pairs else tuple(pairs)


def _pair_in(token, names):
    number, _, name = token.partition(":")
    if number_in(number) is None or name not in names:
        return None
    return (number_in(number), name)
