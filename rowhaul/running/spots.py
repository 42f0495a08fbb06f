"""The pass at hand of a state."""

from rowhaul.machine.flow import CASTS, COUNTED
from rowhaul.machine.heads import merging_of, run_names, standing
from rowhaul.machine.places import rows_there
from rowhaul.machine.room import words_in
from rowhaul.machine.store import Store
from rowhaul.plans.passes import driver_in, told_in
from rowhaul.plans.sizes import cast_width, fan_in, most_coming, size_in
from rowhaul.programs.shapes import inputs_in

# An entry of what may be held: a holder, the fewest and the most records, their widths.


class Spot:
    """A pass at hand, and what a state tells of it, of a form each."""

    def __init__(self, scheme, room, one, state):
        _, self.stage, reads, self.came, held, files, lowest = state
        first, own = lowest
        self.scheme = scheme
        self.room = room
        self.one = one
        self.own = own
        self.driver = driver_in(scheme, one)
        self.parts = [part for part in one if first == () or part[0] < first[0]]
        self.on = [part for part in self.parts if own == () or part[0] < own[0]]
        self.store = Store(files)
        self.places = {(side, name): many for side, name, many in reads}
        self.holds = {holder: records for holder, records in held}

    def casters(self):
        """The parts whose runs the driver reads, each with its fan."""
        if self.driver[0] == "file":
            return []
        fans = fan_in(self.scheme, self.room // 4, self.driver)
        return list(zip(self.scheme.casters_of(self.driver), fans))

    def merging(self, caster):
        """The pairs by which the runs of a part are merged ahead."""
        fans = [fan for part, fan in self.casters() if part == caster]
        return merging_of(self.store, caster, fans[0])

    def runs(self, caster):
        """The names of the runs of a part that the phase reads: of the pair at hand, or all that stand."""
        merging = self.merging(caster)
        if self.stage[0] != "ahead":
            return standing(self.store, caster, merging)
        pairs = self.stage[2]
        first, many = merging[pairs]
        return standing(self.store, caster, merging[:pairs])[first:first + many]

    def heads(self, caster):
        """The heads of a part's runs that are held."""
        return self.holds.get(("heads", caster), ())

    def taken(self, caster):
        """How many records of a part's runs were read and are heads no more."""
        many = sum([self.places[(0, name)] for name in self.runs(caster)])
        return many - len([head for head in self.heads(caster) if head != ()])

    def has_places(self, keys):
        """Are these just the files that are read, each up to a place within it?"""
        if sorted(self.places) != sorted(keys):
            return False
        return all([0 <= self.places[key] <= rows_there(self.store, key[1]) for key in keys])

    def has_more(self, key):
        """Has a file a record that isn't read yet?"""
        return self.places[key] < rows_there(self.store, key[1])

    def has_counts(self):
        """Are there counts of just the parts that have not stopped, each up to the most of what comes?"""
        if [part for part, _ in self.came] != [part for part in self.on if part[1] in COUNTED]:
            return False
        return all([0 <= many <= most_coming(self.scheme, part) for part, many in self.came])

    def has_held(self, entries):
        """Is just what may be held held, and no more words than told of the pass?"""
        allowed = [holder for holder, _, _, _ in entries]
        if not all([holder in allowed for holder in self.holds]):
            return False
        for holder, fewest, most, widths in entries:
            records = self.holds.get(holder, ())
            if not fewest <= len(records) <= most or not all([len(record) in widths for record in records]):
                return False
        words = sum([words_in(self.holds[holder]) for holder in self.holds])
        return words <= told_in(self.scheme, self.room, self.one)

    def carries(self):
        """What carries hold from the pass's begin on."""
        return [(("step", part), 1, 1, (1,)) for part in self.on if self._is_of(part, "carry")]

    def tables(self):
        """What kept looks hold behind the phase in which they are read: the whole tables."""
        kept = [(part, self.scheme.kept_of(part)) for part in self.on if self.scheme.kept_of(part) is not None]
        return [self.table(part, rows_there(self.store, ("node", k))) for part, k in kept]

    def table(self, part, many):
        """What a kept look holds of which so many records are read."""
        return (("kept", part), many, many, (self.scheme.widths[self.scheme.kept_of(part)],))

    def flowing(self, parts):
        """What gathers and casts among some parts hold while records come."""
        told = []
        for part in parts:
            if self._is_of(part, "gather"):
                told.append((("step", part), 0, 1, (self.scheme.widths[part[0]],)))
            if part[1] in CASTS:
                most = size_in(self.scheme, self.room // 4, part) - 1
                told.append((("cast", part), 0, most, (cast_width(self.scheme, part),)))
        return told

    def _is_of(self, part, word):
        """Is a part one of a node of this word?"""
        return self.scheme.nodes[part[0]][0] == word

    def has_close(self, part):
        """Has a part that has not stopped a turn at the close?"""
        return part in self.on and (part[1] in CASTS or self._is_of(part, "gather"))

    def inputs(self):
        """The inputs of the driver's node."""
        return inputs_in(self.scheme.nodes[self.driver[0]])

    def has_ahead(self, files):
        """Are the files that merges ahead made just those of the pairs done and at hand?"""
        told = {}
        for caster, _ in self.casters():
            if self.stage[0] == "ahead" and caster == self.stage[1]:
                told.update(self._made_ahead(caster, self.merging(caster)[:self.stage[2]]))
                told.update(self._made_by_now(caster))
                break
            told.update(self._made_ahead(caster, self.merging(caster)))
        there = {name: rows for name, rows in files if name[0] == "ahead"}
        if {name: len(there[name]) for name in there} != told:
            return False
        widths = {caster: cast_width(self.scheme, caster) for caster, _ in self.casters()}
        return all([len(record) == widths[name[1]] for name in there for record in there[name]])

    def _made_ahead(self, caster, merging):
        """The files that some pairs made, with how many records each has: as many as its runs together."""
        lengths = [self.store.how_many(name) for name in run_names(self.store, caster)]
        told = {}
        for number, (first, many) in enumerate(merging):
            made = sum(lengths[first:first + many])
            told[("ahead", caster, number)] = made
            lengths = lengths[:first] + [made] + lengths[first + many:]
        return told

    def _made_by_now(self, caster):
        """The file of the pair at hand, as long as what was written: what was read and is no head any more."""
        heads = [head for head in self.heads(caster) if head != ()]
        written = sum([self.places[key] for key in self.places]) - len(heads)
        return {("ahead", caster, self.stage[2]): written} if written > 0 else {}
