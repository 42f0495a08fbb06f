"""The passes of a plan, done one behind the other."""

from rowhaul.errors import Over
from rowhaul.machine.passes import END, Doing
from rowhaul.machine.store import Store
from rowhaul.plans.schemes import Scheme
from rowhaul.running.files import files_made, files_read

MOST_TURNS = 10 ** 6


class Course:
    """A plan's passes, turn by turn, in a store.

    Known tells of passes that were done once, by their numbers: the parts done, the files read, the files made, the
    fault met. A pass that would do the same parts on the same files is not done again. What is done comes to be known.
    """

    def __init__(self, program, room, plan, store, known):
        self._asked = (program, room, plan)
        self._scheme = Scheme(program, plan[0])
        self._passes = plan[1]
        self._store = store
        self._known = known
        self._told = [(0, 0, 0)] * len(plan[1])
        self._again = []
        self._done = 0
        self._doing = None
        self._lowest = ()
        self._lost = 0

    def begin(self):
        """Come to the first turn."""
        self._come_on()

    def go_on(self, state):
        """Go on as it was told by a state, the store of which it is made of."""
        self._done = state[0]
        self._lowest, own = state[6]
        if not self.is_over():
            self._doing = self._doing_at(state[1:5], own)

    def _doing_at(self, now, own):
        """The pass at hand, at its begin or as it was told."""
        program, room, plan = self._asked
        below = None if self._lowest == () else self._lowest[0]
        return Doing(program, room, plan, self._done, self._store, below=below, now=now, own=own)

    def _come_on(self):
        """Come to the next turn, or to the end."""
        while not self.is_over():
            if self._doing is None:
                self._come_to()
            elif self._doing.is_over():
                self._end_pass()
            else:
                return

    def _parts_now(self):
        """The parts that the next pass does: behind a fault those of nodes below it alone."""
        one = self._passes[self._done]
        return tuple([part for part in one if self._lowest == () or part[0] < self._lowest[0]])

    def _come_to(self):
        """Begin the next pass, but where it is left out, or is known."""
        parts = self._parts_now()
        if len(parts) == 0:
            self._done += 1
            return
        known = self._known.get(self._done)
        if known is None or known[:2] != (parts, files_read(self._scheme, parts, self._store)):
            self._doing = self._doing_at((), ())
            return
        _, _, made, fault = known
        self._store = Store(tuple(sorted(self._store.files() + made)))
        self._lowest = self._lowest if fault == () else fault
        self._done += 1

    def _end_pass(self):
        """Keep what is told of the pass at hand, and what is known of it now."""
        parts = self._parts_now()
        fault = self._doing.fault()
        made = files_made(self._scheme, self._passes[self._done], self._store)
        self._known[self._done] = (parts, files_read(self._scheme, parts, self._store), made, fault)
        self._told[self._done] = self._told_now()
        self._again.append(self._done)
        self._lowest = self._lowest if fault == () else fault
        self._doing = None
        self._done += 1

    def _told_now(self):
        """What is told of the pass at hand: words, turns, peak."""
        return (self._doing.words(), self._doing.turned(), self._doing.peak())

    def turn(self):
        """Do a turn."""
        if self.is_over():
            raise Over("no further turn")
        self._doing.turn()
        self._come_on()

    def go(self, turns):
        """Do so many turns, or all that are left: how many were done."""
        many = 0
        while many < turns and not self.is_over():
            self.turn()
            many += 1
        return many

    def finish(self):
        """Do all turns that are left."""
        while not self.is_over():
            self.turn()

    def is_over(self):
        """Are all passes done?"""
        return self._done == len(self._passes)

    def fall(self):
        """Lose the room: the pass at hand begins anew, as if it had made no file and met no fault."""
        if self.is_over():
            return
        self._lost += self._doing.words()
        names = [name for name, _ in files_made(self._scheme, self._passes[self._done], self._store)]
        for name in names:
            self._store.take_off(name)
        self._doing = self._doing_at((), ())
        self._come_on()

    def lost(self):
        """How many words were moved by what fell."""
        return self._lost

    def told(self):
        """Of each pass its words, its turns, its peak."""
        told = list(self._told)
        if not self.is_over():
            told[self._done] = self._told_now()
        return told

    def again(self):
        """The numbers of the passes that were done, rising."""
        return tuple(self._again)

    def outcome(self):
        """The lowest fault, or the rows of the outputs."""
        if self._lowest != ():
            return ("fault", self._lowest)
        files = {name: rows for name, rows in self._store.files()}
        return ("rows", tuple([files.get(("node", k), ()) for k in self._scheme.outputs]))

    def state(self):
        """All by which a run goes on."""
        now = END if self.is_over() else self._doing.now()
        own = () if self.is_over() else self._doing.fault()
        return (self._done,) + now + (self._store.files(), (self._lowest, own))
