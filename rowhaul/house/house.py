"""Houses: tables and programs that change, and what is asked of them."""

from rowhaul.errors import Busy, Missing, NoNumber, NoTables, Over, Unfit
from rowhaul.plans.plans import check_plan
from rowhaul.programs.forms import is_name, is_rows, is_tables
from rowhaul.running.courses import MOST_TURNS, Course
from rowhaul.running.files import begun_store
from rowhaul.search.least import least
from rowhaul.words.wholes import check_from, is_from


def _check_name(name):
    """Refuse what is no name of a table."""
    if not is_name(name):
        raise NoTables("no name")


def _check_there(name, named):
    """Refuse a name that nothing has."""
    if not is_name(name) or name not in named:
        raise Missing(name)


def _check_number(number, most):
    """Refuse what is no number of a record or a place."""
    if not is_from(number, 0, most):
        raise NoNumber("no such record or place")


class House:
    """Tables by names, and programs by names, each with a room and a plan there."""

    def __init__(self):
        self._tables = {}
        self._programs = {}
        # What is known of the passes of each program that an ask did.
        self._known = {}
        # The ask that is on.
        self._course = None

    def _check_free(self):
        """Refuse what comes while an ask is on."""
        if self._course is not None:
            raise Busy("an ask is on")

    def _set(self, name, rows):
        """Let a table have these rows, where it stays fit for all programs."""
        if not is_rows(rows):
            raise NoTables("no rows")
        tables = dict(self._tables)
        tables[name] = rows
        for other in sorted(self._programs):
            if not is_tables(self._programs[other][0], tables):
                raise Unfit(other)
        self._tables = tables

    def put(self, name, rows):
        """Put a table, a new one or in the place of the elder one."""
        self._check_free()
        _check_name(name)
        self._set(name, rows)

    def change(self, name, number, record):
        """Let a table have another record in the place of one."""
        self._check_free()
        _check_there(name, self._tables)
        rows = self._tables[name]
        _check_number(number, len(rows) - 1)
        self._set(name, rows[:number] + (record,) + rows[number + 1:])

    def put_in(self, name, number, record):
        """Put a record into a table ahead of the one of this number, or at the end."""
        self._check_free()
        _check_there(name, self._tables)
        rows = self._tables[name]
        _check_number(number, len(rows))
        self._set(name, rows[:number] + (record,) + rows[number:])

    def strike(self, name, number):
        """Strike a record of a table."""
        self._check_free()
        _check_there(name, self._tables)
        rows = self._tables[name]
        _check_number(number, len(rows) - 1)
        self._set(name, rows[:number] + rows[number + 1:])

    def lead(self, name, program, room, *, plan=None):
        """Lead a program by a plan, one of the least words where none is handed in: nothing of it is done yet."""
        self._check_free()
        _check_name(name)
        # Where there is none at all None is told, which is no plan either.
        told = least(program, room)[0] if plan is None else plan
        check_plan(program, room, told)
        if not is_tables(program, self._tables):
            raise Unfit(name)
        self._programs[name] = (program, room, told)
        self._known[name] = {}

    def drop(self, name):
        """Have a program of this name no more."""
        self._check_free()
        _check_there(name, self._programs)
        del self._programs[name]
        del self._known[name]

    def tables(self):
        """The rows of each table."""
        return {name: self._tables[name] for name in sorted(self._tables)}

    def programs(self):
        """Each program with its room and its plan."""
        return {name: self._programs[name] for name in sorted(self._programs)}

    def ask(self, name):
        """The outcome of a program, the passes that were done again, and the words that these moved."""
        self.begin(name)
        return self.finish()

    def begin(self, name):
        """Begin an ask that goes by turns."""
        self._check_free()
        _check_there(name, self._programs)
        program, room, plan = self._programs[name]
        course = Course(program, room, plan, begun_store(program, self._tables), self._known[name])
        course.begin()
        self._course = course

    def _check_on(self):
        """Refuse what goes on with an ask where none is on."""
        if self._course is None:
            raise Over("no ask is on")

    def go(self, turns):
        """Do so many turns of the ask, or all that are left: how many were done."""
        self._check_on()
        check_from(turns, 0, MOST_TURNS)
        return self._course.go(turns)

    def fall(self):
        """Lose the room: the pass at hand begins anew."""
        self._check_on()
        self._course.fall()

    def leave(self):
        """Leave the ask: passes that are done by now are done, the one at hand is as it was ahead of the ask."""
        self._check_on()
        self._course = None

    def finish(self):
        """Do all turns that are left: what the ask tells."""
        self._check_on()
        course = self._course
        course.finish()
        self._course = None
        again = course.again()
        told = course.told()
        return (course.outcome(), again, sum([told[number][0] for number in again]))

    def is_busy(self):
        """Is an ask on?"""
        return self._course is not None
