"""What each kind of driver does in a turn of its drive."""

from rowhaul.machine.heads import Heads, merging_of, standing
from rowhaul.machine.places import Places, rows_there
from rowhaul.plans.sizes import fan_in, size_in


def _all_heads(scheme, quarter, driver, store, held, reads):
    """The runs that a driver reads, as they stand behind the merges ahead: those of each part that cast them."""
    told = []
    for part, fan in zip(scheme.casters_of(driver), fan_in(scheme, quarter, driver)):
        names = standing(store, part, merging_of(store, part, fan))
        told.append(Heads(scheme, part, names, store, held, reads))
    return told


def taken_on_the_way(held, part, record, take):
    """Hand on a record that is held nowhere else: it is held as long as it is under way."""
    held.hold(("way", part), (record,))
    take(record)
    held.hold(("way", part), ())


class Drive:
    """What most drives have alike: one phase, and no fault of their own."""

    def phase(self):
        return ("drive",)

    def fault(self):
        return ()


class FilesDrive(Drive):
    """Hands on the records of a file, or of two, one behind the other."""

    def __init__(self, part, inputs, store, held, reads):
        self._part = part
        self._files = [(side, ("node", k)) for side, k in enumerate(inputs)]
        self._places = Places(store, self._files, reads)
        self._held = held

    def _left_over(self):
        return [file for file in self._files if self._places.has_more(file)]

    def turn(self, take):
        record = self._places.take(self._left_over()[0])
        taken_on_the_way(self._held, self._part, record, take)

    def is_over(self):
        return len(self._left_over()) == 0

    def reads(self):
        return self._places.told()


class BesideDrive(FilesDrive):
    """Hands on i's and j's records as one; where there are more of the one there is no turn at all."""

    def __init__(self, part, inputs, store, held, reads):
        FilesDrive.__init__(self, part, inputs, store, held, reads)
        many = [rows_there(store, name) for _, name in self._files]
        self._fault = () if many[0] == many[1] else (part[0], min(many), "uneven")

    def turn(self, take):
        one, other = [self._places.take(file) for file in self._files]
        taken_on_the_way(self._held, self._part, one + other, take)

    def is_over(self):
        return self._fault != () or len(self._left_over()) == 0

    def fault(self):
        return self._fault


class MergeDrive(Drive):
    """Hands on the records of runs, the least head first; of a look without its number."""

    def __init__(self, scheme, quarter, driver, store, held, reads):
        self._width = scheme.widths[driver[0]]
        self._heads = _all_heads(scheme, quarter, driver, store, held, reads)[0]

    def turn(self, take):
        self._heads.begin()
        place = self._heads.next_place()
        take(self._heads.head(place)[:self._width])
        self._heads.go_on(place)

    def is_over(self):
        return self._heads.is_over()

    def reads(self):
        return self._heads.reads()


class MeetDrive(Drive):
    """Reads left and right side by side; hands on each left record that is alike to the right one found."""

    def __init__(self, scheme, quarter, driver, store, held, reads):
        _, _, _, self._c, self._d = scheme.nodes[driver[0]]
        self._part = driver
        self._left, self._right = _all_heads(scheme, quarter, driver, store, held, reads)
        self._held = held

    def turn(self, take):
        self._left.begin()
        self._right.begin()
        left = self._left.next_place()
        right = self._right.next_place()
        if self._is_right_next(left, right):
            self._find(self._right.head(right))
            self._right.go_on(right)
        else:
            self._join(self._left.head(left), take)
            self._left.go_on(left)
        if self.is_over():
            self._held.hold(("found", self._part), ())

    def _is_right_next(self, left, right):
        if left is None or right is None:
            return left is None
        return self._right.head(right)[self._d] <= self._left.head(left)[self._c]

    def _find(self, record):
        """Hold a right record as the one found, but where the one held is alike: the first one counts."""
        found = self._held.held(("found", self._part))
        if found == () or found[0][self._d] != record[self._d]:
            self._held.hold(("found", self._part), (record,))

    def _join(self, record, take):
        """Put the found one into a left record, ahead of its number, where they are alike."""
        found = self._held.held(("found", self._part))
        if found != () and found[0][self._d] == record[self._c]:
            taken_on_the_way(self._held, self._part, record[:-1] + found[0] + record[-1:], take)

    def is_over(self):
        return self._left.is_over() and self._right.is_over()

    def reads(self):
        return tuple(sorted(self._left.reads() + self._right.reads()))


class BlockDrive(Drive):
    """Holds a block of i's records, looks all of j through for them, hands on those that found one."""

    def __init__(self, scheme, quarter, driver, store, held, phase, reads):
        _, i, j, self._c, self._d = scheme.nodes[driver[0]]
        self._part = driver
        self._size = size_in(scheme, quarter, driver)
        self._width = scheme.widths[i]
        self._one = (0, ("node", i))
        self._other = (1, ("node", j))
        self._places = Places(store, [self._one, self._other], reads)
        self._held = held
        self._word = "fill" if phase is None else phase[0]
        self._come_on()

    def _block(self):
        return self._held.held(("block", self._part))

    def _hold(self, records):
        self._held.hold(("block", self._part), records)

    def _come_on(self):
        """Pass by what has no turns."""
        if self._word == "fill" and (len(self._block()) >= self._size or not self._places.has_more(self._one)):
            self._word = "hold" if len(self._block()) > 0 else "end"
        if self._word == "hold" and not self._places.has_more(self._other):
            self._word = "hand"

    def turn(self, take):
        if self._word == "fill":
            self._hold(self._block() + (self._places.take(self._one),))
        elif self._word == "hold":
            taken_on_the_way(self._held, self._part, self._places.take(self._other), self._join)
        else:
            self._hand_on(take)
        self._come_on()

    def _join(self, record):
        """Put a record of j behind each one held that is alike and has none yet."""
        self._hold(tuple([self._joined(one, record) for one in self._block()]))

    def _joined(self, one, record):
        if len(one) == self._width and one[self._c] == record[self._d]:
            return one + record
        return one

    def _hand_on(self, take):
        """Let go the first one held, handed on where it found one; behind the last one comes the next block."""
        one = self._block()[0]
        if len(one) > self._width:
            take(one)
        self._hold(self._block()[1:])
        if len(self._block()) == 0:
            self._word = "fill"
            self._places.rewind(self._other)

    def is_over(self):
        return self._word == "end"

    def phase(self):
        return (self._word,)

    def reads(self):
        return self._places.told()
