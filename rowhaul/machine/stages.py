"""The stages of a pass: one merge ahead of the runs of each part, one table kept, the drive, one close each."""

from rowhaul.machine.heads import Heads, merging_of, standing
from rowhaul.machine.places import Places


class AheadStage:
    """Merges the runs of one part till so many stand that they can be read side by side."""

    def __init__(self, scheme, part, fan, store, held, pairs, reads):
        self._scheme = scheme
        self._part = part
        self._store = store
        self._held = held
        self._merging = merging_of(store, part, fan)
        self._pairs = pairs
        self._heads = self._heads_of_pair(reads)

    def _heads_of_pair(self, reads):
        """The runs of the pair at hand; of none behind the last pair."""
        names = ()
        if self._pairs < len(self._merging):
            first, many = self._merging[self._pairs]
            names = standing(self._store, self._part, self._merging[:self._pairs])[first:first + many]
        return Heads(self._scheme, self._part, names, self._store, self._held, reads)

    def turn(self):
        self._heads.begin()
        place = self._heads.next_place()
        self._store.write(("ahead", self._part, self._pairs), self._heads.head(place))
        self._heads.go_on(place)
        if self._heads.is_over():
            self._pairs += 1
            self._heads = self._heads_of_pair(())

    def is_over(self):
        return self._pairs >= len(self._merging)

    def phase(self):
        return ("ahead", self._part, self._pairs)

    def reads(self):
        return self._heads.reads()


class KeptStage:
    """Reads the table of a kept look into the room."""

    def __init__(self, part, k, store, held, reads):
        self._part = part
        self._file = (0, ("node", k))
        self._places = Places(store, [self._file], reads)
        self._held = held

    def turn(self):
        holder = ("kept", self._part)
        self._held.hold(holder, self._held.held(holder) + (self._places.take(self._file),))

    def is_over(self):
        return not self._places.has_more(self._file)

    def phase(self):
        return ("kept", self._part)

    def reads(self):
        return self._places.told()


class DriveStage:
    """Lets what the driver hands on flow through the parts."""

    def __init__(self, driver, node, meet, flow):
        self._driver = driver
        self._node = node
        self._meet = meet
        self._flow = flow
        if driver.fault() != ():
            flow.fall(driver.fault())

    def turn(self):
        self._driver.turn(self._take)

    def _take(self, record):
        """A meet's records come to its own cast; all others are rows of a node."""
        if self._meet is None:
            self._flow.hand_on(self._node, record)
        else:
            self._flow.come(self._meet, record)

    def is_over(self):
        return self._driver.is_over()

    def phase(self):
        return self._driver.phase()

    def reads(self):
        return self._driver.reads()


class CloseStage:
    """Closes one part, if that has not stopped."""

    def __init__(self, part, flow):
        self._part = part
        self._flow = flow
        self._is_done = False

    def turn(self):
        self._is_done = True
        self._flow.close(self._part)

    def is_over(self):
        return self._is_done or not self._flow.is_on(self._part)

    def phase(self):
        return ("close", self._part)

    def reads(self):
        return ()
