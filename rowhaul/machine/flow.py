"""What comes of the records that go through the parts of a pass."""

from rowhaul.machine.casts import keys_in
from rowhaul.machine.drives import taken_on_the_way
from rowhaul.machine.heads import run_names
from rowhaul.machine.steps import begun_in, ended_in, stepped_in
from rowhaul.plans.passes import stored_in
from rowhaul.plans.sizes import size_in
from rowhaul.words.sorting import by_keys

COUNTED = ("step", "cast", "left", "right", "meet")
CASTS = ("cast", "left", "right", "meet")

# What these hand on they hold nowhere.
_UNDER_WAY = ("map", "carry", "gather", "look")


class Flow:
    """The parts of a pass of nodes below a bound: how many records came to each, and the lowest fault."""

    def __init__(self, scheme, quarter, one, bound, store, held):
        self._scheme = scheme
        self._quarter = quarter
        self._one = one
        self._bound = bound
        self._stored = stored_in(scheme, one)
        self._store = store
        self._held = held
        self._came = {}
        self._fault = ()

    def begin(self):
        """Hold what the steps hold at first."""
        for part in self.parts_on():
            if part[1] == "step":
                self._held.hold(("step", part), begun_in(self._scheme.nodes[part[0]]))

    def go_on(self, counts, fault):
        """Go on where so many records had come and this fault, or none, had been met."""
        self._came = {part: many for part, many in counts}
        if fault != ():
            self._fault = fault
            self._bound = min(self._bound, fault[0])

    def parts_on(self):
        """The parts that have not stopped."""
        return [part for part in self._one if self.is_on(part)]

    def is_on(self, part):
        """Has a part not stopped?"""
        return part[0] < self._bound

    def fault(self):
        """The lowest fault, or ()."""
        return self._fault

    def counts(self):
        """How many records came to each part that has not stopped, but drivers; to a meet those joined."""
        return tuple([(part, self._came.get(part, 0)) for part in self.parts_on() if part[1] in COUNTED])

    def hand_on(self, k, record):
        """Write a record of a node, where that is stored, and let it come to the parts whose stream the node is."""
        if k in self._stored:
            self._store.write(("node", k), record)
        for part in self._one:
            # A part may have stopped only just now, by what came of the record in a part ahead.
            if self._scheme.stream_of(part) == k and self.is_on(part):
                self.come(part, record)

    def come(self, part, record):
        """Let a record come to a part."""
        number = self._came.get(part, 0)
        self._came[part] = number + 1
        if part[1] == "step":
            self._step(part, record, number)
        elif part[1] == "left":
            self._cast(part, record + (number,))
        else:
            self._cast(part, record)

    def _step(self, part, record, number):
        holder = ("step", part)
        table = self._held.held(("kept", part))
        told = stepped_in(self._scheme.nodes[part[0]], self._held.held(holder), record, number, table)
        if told[0] == "fault":
            self.fall((part[0], number, told[1]))
            return
        self._held.hold(holder, told[1])
        if told[2] is not None:
            self._pass_on(part, told[2])

    def _pass_on(self, part, record):
        """Hand on what a step made; what it only lets by is held already."""
        k = part[0]
        if self._scheme.nodes[k][0] in _UNDER_WAY:
            taken_on_the_way(self._held, part, record, self._taker_of(k))
        else:
            self.hand_on(k, record)

    def _taker_of(self, k):
        """What takes the records of a node."""
        def take(record):
            self.hand_on(k, record)
        return take

    def _cast(self, part, record):
        """Hold a record with those that came; as many as the size are a run."""
        holder = ("cast", part)
        self._held.hold(holder, self._held.held(holder) + (record,))
        if len(self._held.held(holder)) >= size_in(self._scheme, self._quarter, part):
            self._write_run(part)

    def _write_run(self, part):
        """Sort what a part holds, write it as its next run, let it go."""
        holder = ("cast", part)
        name = ("run", part, len(run_names(self._store, part)))
        keys = keys_in(self._scheme.nodes, self._scheme.widths, part)
        for record in by_keys(keys, self._held.held(holder)):
            self._store.write(name, record)
        self._held.hold(holder, ())

    def close(self, part):
        """Hand on the last group, or write the last run."""
        if part[1] in CASTS:
            self._write_run(part)
            return
        record = ended_in(self._scheme.nodes[part[0]], self._held.held(("step", part)))
        self._held.hold(("step", part), ())
        if record is not None:
            self._pass_on(part, record)

    def fall(self, fault):
        """Meet a fault of a part that has not stopped: so it is the lowest, and all from its node on stop."""
        self._fault = fault
        self._bound = fault[0]
        holders = [holder for holder, _ in self._held.holders() if holder[0] in ("step", "kept", "cast")]
        for holder in holders:
            if not self.is_on(holder[1]):
                self._held.hold(holder, ())
