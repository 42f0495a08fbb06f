"""Plans, and the judge of them."""

from rowhaul.errors import NoPlan
from rowhaul.plans.passes import fits_in, is_pass_in
from rowhaul.plans.schemes import Scheme
from rowhaul.plans.sizes import check_room
from rowhaul.plans.ways import is_ways
from rowhaul.programs.forms import check_program
from rowhaul.words.wholes import is_several


def is_plan(program, room, thing):
    """Is it a plan of the program in the room?"""
    check_program(program)
    check_room(room)
    if not is_several(thing, 2, 2):
        return False
    ways, passes = thing
    if not is_ways(program, ways) or not isinstance(passes, tuple):
        return False
    return _are_passes(Scheme(program, ways), room, passes)


def _are_passes(scheme, room, thing):
    """Are they passes that fit, each part in just one, each behind all that it hangs on?"""
    done = []
    for one in thing:
        if not is_pass_in(scheme, one) or not fits_in(scheme, room, one):
            return False
        if any([part in done for part in one]):
            return False
        done = done + list(one)
        if not all([hung in done for part in one for hung in scheme.hung_on(part)]):
            return False
    return len(done) == len(scheme.parts)


def check_plan(program, room, plan):
    """Refuse what is no program, no room, no plan, in this order."""
    if not is_plan(program, room, plan):
        raise NoPlan("no plan in this room")
