"""Runs: a plan done turn by turn, over tables or out of a state."""

from rowhaul.errors import Early, NoState
from rowhaul.machine.store import Store
from rowhaul.plans.plans import check_plan
from rowhaul.programs.forms import check_tables
from rowhaul.running.courses import MOST_TURNS, Course
from rowhaul.running.files import begun_store
from rowhaul.running.states import is_state
from rowhaul.words.wholes import check_from


class Run:
    """A run of a program by a plan in a room."""

    def __init__(self, program, room, plan, tables):
        check_plan(program, room, plan)
        check_tables(program, tables)
        self._course = Course(program, room, plan, begun_store(program, tables), {})
        self._course.begin()

    def turn(self):
        """Do a turn."""
        self._course.turn()

    def go(self, turns):
        """Do so many turns, or all that are left: how many were done."""
        check_from(turns, 0, MOST_TURNS)
        return self._course.go(turns)

    def finish(self):
        """Do all turns that are left."""
        self._course.finish()

    def is_over(self):
        """Is there no further turn?"""
        return self._course.is_over()

    def outcome(self):
        """What plain tells: the rows of the outputs, or the first fault."""
        if not self._course.is_over():
            raise Early("there are turns left")
        return self._course.outcome()

    def words(self):
        """How many words each pass moved."""
        return tuple([words for words, _, _ in self._course.told()])

    def turned(self):
        """How many turns of each pass were done."""
        return tuple([turned for _, turned, _ in self._course.told()])

    def peaks(self):
        """The most words that the room held in each pass."""
        return tuple([peak for _, _, peak in self._course.told()])

    def lost(self):
        """How many words were moved by what fell."""
        return self._course.lost()

    def fall(self):
        """Lose the room: the pass at hand begins anew."""
        self._course.fall()

    def state(self):
        """All by which another run goes on."""
        return self._course.state()


def run_from(program, room, plan, state):
    """The run that goes on from a state."""
    if not is_state(program, room, plan, state):
        raise NoState("no state of a run by this plan")
    # A run is made of tables: of reads without rows, till it is set at the state.
    run = Run(program, room, plan, {node[1]: () for node in program[0] if node[0] == "read"})
    course = Course(program, room, plan, Store(state[5]), {})
    course.go_on(state)
    run._course = course
    return run
