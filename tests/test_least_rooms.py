import unittest

from rowhaul.errors import NoProgram, TooWide
from rowhaul.plans.plans import is_plan
from rowhaul.plans.words import plan_words
from rowhaul.search.least import least, shows_least
from rowhaul.search.rooms import least_room, room_paper, shows_room
from tests.searches import least_words
from tests.test_least import LOOK, ROW, SORT, WIDE, WIDE_BY_A_WAY, small_programs
from tests.things import ANYTHING, NAMES, NO_WHOLE, SALE, Unchanged, alone, over_sale

READS = alone(SALE, NAMES)


class LeastRoom(unittest.TestCase):
    def test_by_hand(self):
        self.assertEqual(least_room(READS), 0)
        # A keep has the file's record under way, of two words.
        self.assertEqual(least_room(over_sale(("keep", 0, 1))), 8)
        self.assertEqual(least_room(over_sale(("map", 0, (1, 2, 3)))), 20)
        # 60 records are no more than 16 runs of 4.
        self.assertEqual(least_room(SORT), 16)
        # A block holds one record at least, and j's under way.
        self.assertEqual(least_room(LOOK), 12)
        self.assertEqual(least_room(ROW), 16)

    def test_a_plan_there_and_none_below(self):
        for _, program in small_programs(51, 50, 6):
            room = least_room(program)
            self.assertIsNotNone(least_words(program, room))
            for less in {room - 1, room - 4, room // 2}:
                if 0 <= less < room:
                    self.assertIsNone(least_words(program, less))
            for more in (room + 1, room + 9, 2 * room, 10 ** 6):
                self.assertIsNotNone(least_words(program, more))

    def test_a_wide_program(self):
        wide = alone(("read", "a", ((0, 1),) * 4, 200), ("read", "b", ((0, 1),) * 4, 200), ("look", 0, 1, 0, 0),
                     ("both", 2, 2), ("sort", 3, ((7, "down"),)), ("sort", 4, ((6, "up"),)))
        room = least_room(wide)
        # 400 records of 8 words: a half of 25 of them, in two quarters.
        self.assertEqual(room, 400)
        self.assertEqual(shows_room(wide, room_paper(wide)), room)


class Papers(unittest.TestCase):
    def test_the_told_one(self):
        for _, program in small_programs(52, 40, 8):
            room, one, other = room_paper(program)
            self.assertEqual(room, least_room(program))
            self.assertTrue(is_plan(program, room, one[0]))
            self.assertEqual(shows_least(program, room, one), ("plan", sum(plan_words(program, room, one[0]))))
            if room == 0:
                self.assertIsNone(other)
            else:
                self.assertEqual(shows_least(program, room - 1, other), ("none",))
            self.assertEqual(shows_room(program, (room, one, other)), room)

    def test_bent(self):
        room, one, other = room_paper(SORT)
        self.assertEqual(room, 16)
        for thing in ((room, other, one), (room, one, None), (room, None, other), (room, one, one), (room, other, other),
                      (room, one), (room, one, other, None), [room, one, other], (room + 1, one, other),
                      (room - 1, one, other), (room + 4, one, other), (room - 4, one, other), (0, one, other), (0, one, None),
                      (True, one, other), (str(room), one, other), (room, list(one), other), (None, one, other),
                      (room, (one[0], one[1][::-1]), other), (room, one, (one[0], other[1])), (room, (None, one[1]), other),
                      (room + 4, least(SORT, room + 4), least(SORT, room + 3)),
                      (room - 4, least(SORT, room - 4), least(SORT, room - 5)),
                      (room + 1, least(SORT, room + 1), least(SORT, room)), (10 ** 59, one, other), (-1, one, other)):
            with Unchanged(self, thing):
                self.assertIsNone(shows_room(SORT, thing), thing)
        for number in NO_WHOLE:
            self.assertIsNone(shows_room(SORT, (number, one, other)))

    def test_reads_alone(self):
        room, one, other = room_paper(READS)
        self.assertEqual((room, one, other), (0, (((), ()), ((((), 0),),)), None))
        self.assertEqual(shows_room(READS, (room, one, other)), 0)
        for thing in ((0, one, one), (0, one, False), (0, None, None), (False, one, None), (1, one, None), (1, one, one)):
            self.assertIsNone(shows_room(READS, thing))

    def test_of_anything(self):
        for program in (READS, SORT):
            for thing in ANYTHING:
                self.assertIsNone(shows_room(program, thing))


class Refused(unittest.TestCase):
    def test_no_program(self):
        for thing in ANYTHING:
            for ask in (least_room, room_paper, lambda program: shows_room(program, None)):
                with self.assertRaises(NoProgram):
                    ask(thing)

    def test_too_wide(self):
        for program in (WIDE, WIDE_BY_A_WAY):
            for ask in (least_room, room_paper):
                with self.assertRaises(TooWide):
                    ask(program)
            for thing in ANYTHING + [(0, ((), ()), None)]:
                with self.assertRaises(TooWide):
                    shows_room(program, thing)

    def test_by_name_and_as_it_was(self):
        with Unchanged(self, SORT):
            self.assertEqual(least_room(program=SORT), 16)
            self.assertEqual(shows_room(thing=room_paper(program=SORT), program=SORT), 16)


if __name__ == "__main__":
    unittest.main()
