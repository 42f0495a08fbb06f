import unittest

from rowhaul.errors import NoNumber, NoProgram, TooWide
from rowhaul.search.least import least, shows_least
from rowhaul.search.rooms import least_room
from rowhaul.telling.stairs import shows_stairs, stairs, stairs_paper
from tests.searches import least_words
from tests.test_least import LOOK, ROW, SORT, WIDE, WIDE_BY_A_WAY, small_programs
from tests.things import ANYTHING, NAMES, NO_WHOLE, SALE, Unchanged, alone

READS = alone(SALE, NAMES)


def said_stairs(program, low, high):
    """The stairs, room by room."""
    told = []
    for room in range(low, high + 1):
        words = least_words(program, room)
        if not told or told[-1][1] != words:
            told.append((room, words))
    return tuple(told)


def said_rooms(steps, high):
    rooms = {steps[0][0], high}
    for room, _ in steps[1:]:
        rooms |= {room - 1, room}
    return sorted(rooms)


class Stairs(unittest.TestCase):
    def test_by_hand(self):
        self.assertEqual(stairs(SORT, 10, 25), ((10, None), (16, 1184), (20, 480 + 4 * 160), (24, 480 + 4 * 72)))
        self.assertEqual(stairs(SORT, 16, 19), ((16, 1184),))
        self.assertEqual(stairs(SORT, 17, 20), ((17, 1184), (20, 1120)))
        self.assertEqual(stairs(SORT, 0, 15), ((0, None),))
        self.assertEqual(stairs(SORT, 15, 16), ((15, None), (16, 1184)))
        self.assertEqual(shows_stairs(SORT, 15, 16, stairs_paper(SORT, 15, 16)), ((15, None), (16, 1184)))
        self.assertEqual(stairs(SORT, 900, 940), ((900, 480),))

    def test_low_as_high(self):
        for room in (0, 15, 16, 10 ** 6):
            self.assertEqual(stairs(SORT, room, room), ((room, least_words(SORT, room)),))
            self.assertEqual(stairs_paper(SORT, room, room), ((room, least(SORT, room)),))
            self.assertEqual(shows_stairs(SORT, room, room, ((room, least(SORT, room)),)), stairs(SORT, room, room))

    def test_reads_alone(self):
        self.assertEqual(stairs(READS, 0, 40), ((0, 0),))
        paper = stairs_paper(READS, 0, 40)
        self.assertEqual([room for room, _ in paper], [0, 40])
        self.assertEqual(shows_stairs(READS, 0, 40, paper), ((0, 0),))

    def test_room_by_room(self):
        steps, none = 0, 0
        for chance, program in small_programs(111, 40, 6):
            low = max(0, least_room(program) + chance.choice((-30, -9, -5, 0, 3, 40)))
            high = low + chance.choice((0, 5, 17, 40))
            expected = said_stairs(program, low, high)
            self.assertEqual(stairs(program, low, high), expected)
            paper = stairs_paper(program, low, high)
            self.assertEqual([room for room, _ in paper], said_rooms(expected, high))
            for room, one in paper:
                words = least_words(program, room)
                self.assertEqual(shows_least(program, room, one), ("none",) if words is None else ("plan", words))
            self.assertEqual(shows_stairs(program, low, high, paper), expected)
            steps += len(expected) - 1
            none += expected[0][1] is None
        self.assertGreater(min(steps, none), 6)

    def test_at_the_greatest_rooms(self):
        for program in (SORT, LOOK, ROW):
            self.assertEqual(stairs(program, 10 ** 6 - 40, 10 ** 6), ((10 ** 6 - 40, least_words(program, 10 ** 6)),))


class Papers(unittest.TestCase):
    LOW, HIGH = 14, 30
    PAPER = stairs_paper(SORT, LOW, HIGH)
    STAIRS = stairs(SORT, LOW, HIGH)

    def shown(self, thing, low=LOW, high=HIGH):
        with Unchanged(self, thing):
            return shows_stairs(SORT, low, high, thing)

    def test_the_told_one(self):
        self.assertEqual([room for room, _ in self.PAPER], [14, 15, 16, 19, 20, 23, 24, 27, 28, 30])
        self.assertEqual(self.shown(self.PAPER), self.STAIRS)

    def test_an_entry_out(self):
        for at in range(len(self.PAPER)):
            self.assertIsNone(self.shown(self.PAPER[:at] + self.PAPER[at + 1:]))

    def test_an_entry_twice_and_others(self):
        for at in range(len(self.PAPER)):
            self.assertIsNone(self.shown(self.PAPER[:at + 1] + self.PAPER[at:]))
        for room in (13, 17, 18, 21, 25, 29, 31):
            more = tuple(sorted(self.PAPER + ((room, least(SORT, room)),), key=lambda entry: entry[0]))
            self.assertIsNone(self.shown(more))
        self.assertIsNone(self.shown(self.PAPER[::-1]))

    def test_papers_of_other_rooms(self):
        for at, (room, paper) in enumerate(self.PAPER):
            for other in (least(SORT, room + 4), None, (), paper[:1], (paper[0], ()), (None, paper[1] if paper[0] else ()), paper[0]):
                if other != paper:
                    self.assertIsNone(self.shown(self.PAPER[:at] + ((room, other),) + self.PAPER[at + 1:]), (room, other))
            for other in (room + 1, room - 1, str(room), None, True, 10 ** 59, -1):
                self.assertIsNone(self.shown(self.PAPER[:at] + ((other, paper),) + self.PAPER[at + 1:]))
            for entry in ((room,), [room, paper], (room, paper, None), (paper, room), room, None):
                self.assertIsNone(self.shown(self.PAPER[:at] + (entry,) + self.PAPER[at + 1:]))

    def test_of_other_bounds(self):
        for low, high in ((13, 30), (15, 30), (14, 29), (14, 31), (14, 14), (30, 30), (16, 28)):
            self.assertIsNone(self.shown(self.PAPER, low, high))
        self.assertEqual(self.shown(self.PAPER[2:], 16, 30), self.STAIRS[1:])
        self.assertIsNone(self.shown(self.PAPER[1:], 16, 30))

    def test_of_anything(self):
        for thing in ANYTHING + [list(self.PAPER), dict(self.PAPER), self.STAIRS, (self.PAPER,)]:
            self.assertIsNone(self.shown(thing))
            self.assertIsNone(shows_stairs(READS, 0, 0, thing))


class Touching(unittest.TestCase):
    """Bounds that are none, programs that are none or too wide."""

    ASKS = (stairs, stairs_paper, lambda program, low, high: shows_stairs(program, low, high, None))

    def test_no_program(self):
        for ask in self.ASKS:
            for thing in ANYTHING:
                with self.assertRaises(NoProgram):
                    ask(thing, None, None)

    def test_no_bounds(self):
        for ask in self.ASKS:
            for program in (SORT, WIDE):
                for thing in NO_WHOLE + [-1, 10 ** 6 + 1, 10 ** 59]:
                    for high in (None, 5):
                        with self.assertRaises(NoNumber):
                            ask(program, thing, high)
                for low, high in [(5, thing) for thing in NO_WHOLE] + [(5, 4), (5, 0), (5, -1), (5, 46), (0, 41), (5, 10 ** 59),
                                                                      (10 ** 6 - 5, 10 ** 6 + 1), (10 ** 6, 10 ** 6 + 1)]:
                    with self.assertRaises(NoNumber):
                        ask(program, low, high)

    def test_too_wide(self):
        for program in (WIDE, WIDE_BY_A_WAY):
            for ask in self.ASKS:
                with self.assertRaises(TooWide):
                    ask(program, 0, 40)
            for thing in ANYTHING:
                with self.assertRaises(TooWide):
                    shows_stairs(program, 5, 5, thing)

    def test_by_name_and_as_it_was(self):
        with Unchanged(self, SORT):
            paper = stairs_paper(high=20, low=16, program=SORT)
            told = stairs(high=20, low=16, program=SORT)
            self.assertEqual(shows_stairs(thing=paper, high=20, low=16, program=SORT), told)
        self.assertEqual(told, ((16, 1184), (20, 1120)))


if __name__ == "__main__":
    unittest.main()
