"""Passes, done turn by turn."""

from rowhaul.errors import Over
from rowhaul.machine.drivers import Driver
from rowhaul.machine.flow import Flow
from rowhaul.machine.room import Room
from rowhaul.machine.stages import AheadStage, CloseStage, DriveStage, KeptStage
from rowhaul.plans.passes import driver_in, told_in
from rowhaul.plans.schemes import Scheme
from rowhaul.plans.sizes import fan_in

END = (("end",), (), (), ())
_CLOSED = ("cast", "left", "right", "meet")


class Doing:
    """A pass at hand."""

    def __init__(self, program, room, plan, number, store, *, below=None, now=(), own=()):
        ways, passes = plan
        self._asked = (program, room, ways)
        self._scheme = Scheme(program, ways)
        one = passes[number]
        bound = len(self._scheme.nodes) if below is None else below
        self._driver = driver_in(self._scheme, one)
        self._store = store
        self._held = Room(told_in(self._scheme, room, one))
        self._flow = Flow(self._scheme, room // 4, one, bound, store, self._held)
        self._todo = self._stages_of([part for part in one if part[0] < bound])
        self._stage = None
        self._turned = 0
        self._words = 0
        if now == ():
            self._flow.go_on((), own)
            self._flow.begin()
        else:
            self._go_on(now, own)
        self._come_on()

    def _stages_of(self, parts):
        """The stages of a pass of these parts, in order, each told by a word and a part; none of no parts."""
        if len(parts) == 0:
            return []
        told = [("ahead", part) for part in self._casters()]
        told = told + [("kept", part) for part in parts if self._scheme.kept_of(part) is not None]
        told = told + [("drive", self._driver)]
        return told + [("close", part) for part in parts if self._is_closed(part)]

    def _casters(self):
        """The parts whose runs the driver reads."""
        return () if self._driver[0] == "file" else self._scheme.casters_of(self._driver)

    def _is_closed(self, part):
        """Has a part a turn at the close?"""
        return part[1] in _CLOSED or self._scheme.nodes[part[0]][0] == "gather"

    def _go_on(self, now, own):
        """Go on as it was told by now."""
        phase, reads, counts, held = now
        self._flow.go_on(counts, own)
        for holder, records in held:
            self._held.hold(holder, records)
        if phase == ("end",):
            self._todo = []
            return
        at = phase[:2] if phase[0] in ("ahead", "kept", "close") else ("drive", self._driver)
        self._todo = self._todo[self._todo.index(at):]
        self._stage = self._stage_of(at, phase, reads)

    def _stage_of(self, at, phase, reads):
        """The stage of a word and a part: at its begin, where phase is None, or at this one."""
        word, part = at
        if word == "ahead":
            fan = fan_in(self._scheme, self._asked[1] // 4, self._driver)[self._casters().index(part)]
            pairs = 0 if phase is None else phase[2]
            return AheadStage(self._scheme, part, fan, self._store, self._held, pairs, reads)
        if word == "kept":
            return KeptStage(part, self._scheme.kept_of(part), self._store, self._held, reads)
        if word == "close":
            return CloseStage(part, self._flow)
        program, room, ways = self._asked
        driver = Driver(program, room, ways, part, self._store, self._held, phase=phase, reads=reads)
        node = part[1] if part[0] == "file" else part[0]
        return DriveStage(driver, node, part if part[1] == "meet" else None, self._flow)

    def _come_on(self):
        """Come to the stage of the next turn, or to the end."""
        while len(self._todo) > 0:
            if self._stage is None:
                self._stage = self._stage_of(self._todo[0], None, ())
            if not self._stage.is_over():
                return
            self._stage = None
            self._todo = self._todo[1:]
        self._leave_nothing()

    def _leave_nothing(self):
        """Empty the room and take off the files that merges ahead made."""
        holders = [holder for holder, _ in self._held.holders()]
        for holder in holders:
            self._held.hold(holder, ())
        names = [name for name in self._store.names() if name[0] == "ahead" and name[1] in self._casters()]
        for name in names:
            self._store.take_off(name)

    def turn(self):
        """Do a turn."""
        if self.is_over():
            raise Over("no further turn")
        before = self._store.moved()
        self._stage.turn()
        self._come_on()
        self._turned += 1
        self._words += self._store.moved() - before

    def is_over(self):
        """Is there no further turn?"""
        return len(self._todo) == 0

    def fault(self):
        """The lowest fault met in this pass, or ()."""
        return self._flow.fault()

    def words(self):
        """How many words its turns moved."""
        return self._words

    def turned(self):
        """How many turns were done."""
        return self._turned

    def peak(self):
        """The most words that the room held."""
        return self._held.peak()

    def now(self):
        """The phase of the next turn, what is read, how many records came, what is held."""
        if self.is_over():
            return END
        return (self._stage.phase(), self._stage.reads(), self._flow.counts(), self._held.holders())
