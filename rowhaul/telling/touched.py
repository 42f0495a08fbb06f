"""What changes of tables touch."""

from rowhaul.plans.passes import stored_in
from rowhaul.plans.plans import check_plan
from rowhaul.plans.schemes import Scheme
from rowhaul.plans.words import plan_words
from rowhaul.running.files import casters_read, nodes_read


def touched(program, room, plan, names):
    """The numbers of the passes that read one of these tables, or a file that a touched pass makes."""
    check_plan(program, room, plan)
    ways, passes = plan
    scheme = Scheme(program, ways)
    nodes = [k for k, node in enumerate(program[0]) if node[0] == "read" and node[1] in names]
    casters = []
    told = []
    for number, one in enumerate(passes):
        reads = [k for k in nodes_read(scheme, one) if k in nodes]
        runs = [part for part in casters_read(scheme, one) if part in casters]
        if len(reads) + len(runs) > 0:
            told.append(number)
            nodes = nodes + list(stored_in(scheme, one))
            casters = casters + list(one)
    return tuple(told)


def may_move(program, room, plan, names):
    """How many words the touched passes move at the mosts."""
    numbers = touched(program, room, plan, names)
    words = plan_words(program, room, plan)
    return sum([words[number] for number in numbers])
