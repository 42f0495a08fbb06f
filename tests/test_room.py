import unittest
from random import Random

from rowhaul.errors import NoNumber, Overfull
from rowhaul.machine.room import Room
from tests.things import NO_WHOLE, Unchanged

WORDS = ("heads", "kept", "step", "cast", "block", "found", "way")
PART = (2, "step")
ONE = ("cast", (2, "cast"))
OTHER = ("way", (0, "file"))


class Holding(unittest.TestCase):
    def test_nothing_at_first(self):
        for most in (0, 1, 10 ** 6):
            room = Room(most)
            self.assertEqual((room.words(), room.peak(), room.holders()), (0, 0, ()))
            self.assertEqual(room.held(ONE), ())

    def test_each_word_of_a_holder(self):
        room = Room(100)
        for many, word in enumerate(WORDS):
            self.assertIsNone(room.hold((word, PART), ((1, many), (3,))))
            self.assertEqual(room.words(), 3 * (many + 1))
        for many, word in enumerate(WORDS):
            self.assertEqual(room.held((word, PART)), ((1, many), (3,)))
        self.assertEqual(room.holders(), tuple(((word, PART), ((1, WORDS.index(word)), (3,))) for word in sorted(WORDS)))

    def test_in_the_place_of_what_it_held(self):
        room = Room(10)
        room.hold(ONE, ((1, 2), (3, 4)))
        room.hold(ONE, ((5,),))
        self.assertEqual((room.held(ONE), room.words(), room.peak()), (((5,),), 1, 4))
        room.hold(ONE, ((1, 2), (3, 4), (5, 6)))
        self.assertEqual((room.words(), room.peak()), (6, 6))

    def test_what_it_held_counts_no_more(self):
        room = Room(4)
        room.hold(ONE, ((1, 2), (3, 4)))
        room.hold(ONE, ((5, 6), (7, 8)))
        self.assertEqual((room.held(ONE), room.words(), room.peak()), (((5, 6), (7, 8)), 4, 4))

    def test_let_go(self):
        room = Room(10)
        room.hold(ONE, ((1, 2),))
        room.hold(OTHER, ((3,),))
        self.assertIsNone(room.hold(ONE, ()))
        self.assertEqual((room.held(ONE), room.words(), room.peak()), ((), 1, 3))
        self.assertEqual(room.holders(), ((OTHER, ((3,),)),))
        room.hold(ONE, ())
        room.hold(OTHER, ())
        self.assertEqual((room.holders(), room.words(), room.peak()), ((), 0, 3))

    def test_records_without_words(self):
        room = Room(3)
        room.hold(ONE, ((), (1, 2, 3), ()))
        self.assertEqual((room.words(), room.held(ONE)), (3, ((), (1, 2, 3), ())))
        room.hold(ONE, ((), ()))
        self.assertEqual((room.words(), room.holders()), (0, ((ONE, ((), ())),)))

    def test_of_any_widths(self):
        room = Room(45)
        room.hold(ONE, tuple((7,) * width for width in range(10)))
        self.assertEqual(room.words(), 45)

    def test_holders_rise(self):
        room = Room(1000)
        holders = [(word, part) for word in WORDS for part in ((1, "step"), (10, "cast"), (2, "merge"), (2, "block"),
                                                               (0, "file"))]
        for holder in holders:
            room.hold(holder, ((1,),))
        self.assertEqual([holder for holder, _ in room.holders()], sorted(holders))

    def test_unlike_parts_are_unlike_holders(self):
        room = Room(10)
        room.hold(("cast", (1, "left")), ((1,),))
        room.hold(("cast", (1, "right")), ((2,),))
        room.hold(("step", (1, "left")), ((3,),))
        self.assertEqual(room.held(("cast", (1, "left"))), ((1,),))
        self.assertEqual(room.held(("cast", (1, "right"))), ((2,),))
        self.assertEqual(room.held(("cast", (2, "left"))), ())


class Most(unittest.TestCase):
    def test_just_the_most(self):
        room = Room(5)
        room.hold(ONE, ((1, 2, 3),))
        room.hold(OTHER, ((4, 5),))
        self.assertEqual((room.words(), room.peak()), (5, 5))

    def test_one_more(self):
        room = Room(5)
        room.hold(ONE, ((1, 2),))
        room.hold(OTHER, ((9,),))
        before = (room.holders(), room.words(), room.peak())
        for holder, records, many in ((OTHER, ((1, 2, 3, 4),), 6), (ONE, ((1, 2), (3, 4), (5, 6)), 7),
                                      (("kept", PART), ((1,),) * 3, 6), (("kept", PART), ((1,) * 9,) * 50, 453)):
            with self.assertRaises(Overfull) as caught:
                room.hold(holder, records)
            self.assertEqual(caught.exception.many, many)
            self.assertEqual((room.holders(), room.words(), room.peak()), before)
        room.hold(("kept", PART), ((1,), (2,)))
        self.assertEqual((room.words(), room.peak()), (5, 5))

    def test_a_most_of_nothing(self):
        room = Room(0)
        room.hold(ONE, ((), ()))
        self.assertEqual((room.words(), room.peak(), room.held(ONE)), (0, 0, ((), ())))
        with self.assertRaises(Overfull) as caught:
            room.hold(ONE, ((1,),))
        self.assertEqual(caught.exception.many, 1)
        self.assertEqual(room.held(ONE), ((), ()))

    def test_the_greatest_most(self):
        room = Room(10 ** 6)
        room.hold(ONE, ((1,) * 8,) * (10 ** 6 // 8))
        self.assertEqual(room.words(), 10 ** 6)
        with self.assertRaises(Overfull) as caught:
            room.hold(OTHER, ((1,),))
        self.assertEqual(caught.exception.many, 10 ** 6 + 1)

    def test_peak_stays(self):
        room = Room(100)
        for many in (3, 50, 7, 49, 50, 0):
            room.hold(ONE, ((1,),) * many)
        self.assertEqual((room.peak(), room.words()), (50, 0))
        room.hold(ONE, ((1,),) * 51)
        self.assertEqual(room.peak(), 51)

    def test_two_side_by_side(self):
        one, other = Room(3), Room(9)
        one.hold(ONE, ((1, 2),))
        self.assertEqual((other.words(), other.held(ONE), other.peak()), (0, (), 0))
        other.hold(ONE, ((1, 2, 3), (4, 5, 6)))
        self.assertEqual((one.words(), one.held(ONE), one.peak()), (2, ((1, 2),), 2))

    def test_no_most(self):
        for thing in NO_WHOLE + [-1, 10 ** 6 + 1, 10 ** 59, -(10 ** 59)]:
            with self.assertRaises(NoNumber):
                Room(thing)

    def test_against_a_dict(self):
        chance = Random(5)
        room, told, peak = Room(30), {}, 0
        for _ in range(3000):
            holder = (chance.choice(WORDS), (chance.randrange(2), chance.choice(("step", "cast"))))
            records = tuple((1,) * chance.randrange(5) for _ in range(chance.randrange(4)))
            new = {key: rows for key, rows in {**told, holder: records}.items() if rows}
            many = sum(len(record) for rows in new.values() for record in rows)
            if many > 30:
                with self.assertRaises(Overfull) as caught:
                    room.hold(holder, records)
                self.assertEqual(caught.exception.many, many)
            else:
                room.hold(holder, records)
                told, peak = new, max(peak, many)
            self.assertEqual(room.holders(), tuple(sorted(told.items())))
            self.assertEqual(room.peak(), peak)


class Asked(unittest.TestCase):
    def test_by_name_and_as_it_was(self):
        room = Room(most=10)
        records = ((1, 2), ())
        with Unchanged(self, ONE, records):
            room.hold(records=records, holder=ONE)
            room.hold(OTHER, ((3,),))
        self.assertEqual(room.held(holder=ONE), ((1, 2), ()))

    def test_the_same_answer_again(self):
        room = Room(10)
        room.hold(ONE, ((1, 2),))
        for _ in range(2):
            self.assertEqual((room.words(), room.peak(), room.held(ONE), room.holders()),
                             (2, 2, ((1, 2),), ((ONE, ((1, 2),)),)))


if __name__ == "__main__":
    unittest.main()
