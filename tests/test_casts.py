import unittest
from random import Random

from rowhaul.errors import NoPass, NoProgram
from rowhaul.machine.casts import cast_sorted, keys_of, least_head
from rowhaul.programs.plain import plain
from tests.things import ANYTHING, LOW, TOP, Unchanged, alone

READ = ("read", "sale", ((0, 9), (-5, 5), (0, 9)), 60)
OTHER = ("read", "names", ((0, 9), (0, 9)), 60)
PROGRAM = alone(READ, OTHER, ("sort", 0, ((1, "down"), (0, "up"))), ("look", 0, 1, 2, 1), ("keep", 3, 1),
                ("both", 0, 0))
CAST, LEFT, RIGHT, MEET = (2, "cast"), (3, "left"), (3, "right"), (3, "meet")
NONE = ANYTHING + [(2, "left"), (2, "right"), (2, "meet"), (2, "merge"), (2, "step"), (3, "cast"), (3, "merge"),
                   (3, "block"), (3, "step"), (0, "cast"), (4, "cast"), (4, "step"), (5, "both"), (6, "cast"),
                   (-4, "cast"), (True, "cast"), (2, "cast", 0), (2,), [2, "cast"], (2, ["cast"]), (2, None), (2, True),
                   ("2", "cast"), (None, "cast"), ("file", 0), (2, ("cast",)), (2, "sort"), (2, ""), (10 ** 59, "left")]


class Keys(unittest.TestCase):
    def test_each(self):
        self.assertEqual(keys_of(PROGRAM, CAST), ((1, "down"), (0, "up")))
        self.assertEqual(keys_of(PROGRAM, LEFT), ((2, "up"), (3, "up")))
        self.assertEqual(keys_of(PROGRAM, RIGHT), ((1, "up"),))
        self.assertEqual(keys_of(PROGRAM, MEET), ((5, "up"),))

    def test_of_any_sort_and_any_look(self):
        idle = alone(READ, ("sort", 0, ((0, "up"),)), ("sort", 1, ((0, "up"),)), ("look", 0, 0, 1, 0), ("keep", 0, 1))
        self.assertEqual(keys_of(idle, (1, "cast")), ((0, "up"),))
        self.assertEqual(keys_of(idle, (2, "cast")), ((0, "up"),))
        self.assertEqual(keys_of(idle, (3, "left")), ((1, "up"), (3, "up")))
        self.assertEqual(keys_of(idle, (3, "right")), ((0, "up"),))
        self.assertEqual(keys_of(idle, (3, "meet")), ((6, "up"),))


class Sorted(unittest.TestCase):
    def test_cast(self):
        records = ((3, 1, 0), (2, 1, 1), (3, 4, 2), (3, 1, 3), (1, -5, 4), (2, 1, 5))
        self.assertEqual(cast_sorted(PROGRAM, CAST, records), ((3, 4, 2), (2, 1, 1), (2, 1, 5), (3, 1, 0), (3, 1, 3),
                                                               (1, -5, 4)))

    def test_alike_ones_stay_as_they_came(self):
        for records in (((1, 1, 5), (1, 1, 3), (1, 1, 9)), ((1, 1, 9), (1, 1, 3), (1, 1, 5))):
            self.assertEqual(cast_sorted(PROGRAM, CAST, records), records)
        self.assertEqual(cast_sorted(PROGRAM, RIGHT, ((9, 1), (8, 0), (3, 1), (4, 0))), ((8, 0), (4, 0), (9, 1), (3, 1)))

    def test_left(self):
        records = ((0, 0, 7, 10), (0, 0, 2, 11), (9, 9, 7, 3), (5, 5, 2, 0))
        self.assertEqual(cast_sorted(PROGRAM, LEFT, records), ((5, 5, 2, 0), (0, 0, 2, 11), (9, 9, 7, 3), (0, 0, 7, 10)))

    def test_meet(self):
        records = ((0, 0, 7, 1, 7, 10), (9, 9, 7, 3, 7, 3), (0, 0, 7, 1, 7, 20), (5, 5, 2, 0, 2, 0))
        self.assertEqual(cast_sorted(PROGRAM, MEET, records), (records[3], records[1], records[0], records[2]))

    def test_none_and_one(self):
        for part in (CAST, LEFT, RIGHT, MEET):
            self.assertEqual(cast_sorted(PROGRAM, part, ()), ())
        self.assertEqual(cast_sorted(PROGRAM, CAST, ((1, 2, 3),)), ((1, 2, 3),))

    def test_far_words(self):
        program = alone(("read", "a", ((LOW, TOP),), 9), ("sort", 0, ((0, "down"),)))
        self.assertEqual(cast_sorted(program, (1, "cast"), ((0,), (LOW,), (TOP,), (-1,))), ((TOP,), (0,), (-1,), (LOW,)))

    def test_as_plain_sorts(self):
        chance = Random(7)
        for _ in range(200):
            keys = tuple((column, chance.choice(("up", "down"))) for column in chance.sample(range(3), chance.randint(1, 3)))
            program = alone(READ, ("sort", 0, keys))
            rows = tuple((chance.randint(0, 2), chance.randint(-1, 1), k) for k in range(10))
            self.assertEqual(("rows", (cast_sorted(program, (1, "cast"), rows),)), plain(program, {"sale": rows}))


class Heads(unittest.TestCase):
    def test_the_least(self):
        heads = ((3, 1, 0), (2, 1, 0), (3, 4, 0), (2, 4, 0))
        self.assertEqual(least_head(PROGRAM, CAST, heads), 3)
        self.assertEqual(least_head(PROGRAM, CAST, heads[:3]), 2)
        self.assertEqual(least_head(PROGRAM, CAST, heads[:2]), 1)
        self.assertEqual(least_head(PROGRAM, CAST, heads[:1]), 0)

    def test_of_alike_ones_the_first(self):
        self.assertEqual(least_head(PROGRAM, CAST, ((9, 0, 0), (1, 1, 9), (1, 1, 3), (1, 1, 1))), 1)
        self.assertEqual(least_head(PROGRAM, RIGHT, ((5, 2), (4, 1), (3, 1))), 1)
        self.assertEqual(least_head(PROGRAM, RIGHT, ((5, 1), (4, 1), (3, 1))), 0)

    def test_with_runs_that_have_no_more(self):
        self.assertEqual(least_head(PROGRAM, CAST, ((), (1, 1, 9), (), (1, 2, 3))), 3)
        self.assertEqual(least_head(PROGRAM, CAST, ((), (1, 1, 9), (1, 1, 8))), 1)
        self.assertEqual(least_head(PROGRAM, CAST, ((), (), (1, 1, 9))), 2)

    def test_heads_of_one_word(self):
        program = alone(("read", "a", ((0, 9),), 9), ("sort", 0, ((0, "up"),)))
        self.assertEqual(least_head(program, (1, "cast"), ((), (3,), (2,), (2,))), 2)

    def test_none(self):
        for heads in ((), ((),), ((), (), ())):
            for part in (CAST, LEFT, RIGHT, MEET):
                self.assertIsNone(least_head(PROGRAM, part, heads))

    def test_left_and_meet(self):
        self.assertEqual(least_head(PROGRAM, LEFT, ((0, 0, 5, 1), (9, 9, 4, 7), (8, 8, 4, 6))), 2)
        self.assertEqual(least_head(PROGRAM, MEET, ((0, 0, 0, 0, 0, 9), (9, 9, 9, 9, 9, 8))), 1)


class Refused(unittest.TestCase):
    def test_no_part_that_casts(self):
        for thing in NONE:
            with self.assertRaises(NoPass):
                keys_of(PROGRAM, thing)
            for other in ((), None):
                with self.assertRaises(NoPass):
                    cast_sorted(PROGRAM, thing, other)
                with self.assertRaises(NoPass):
                    least_head(PROGRAM, thing, other)

    def test_no_program(self):
        for thing in ANYTHING:
            for part in (CAST, thing):
                with self.assertRaises(NoProgram):
                    keys_of(thing, part)
                with self.assertRaises(NoProgram):
                    cast_sorted(thing, part, ())
                with self.assertRaises(NoProgram):
                    least_head(thing, part, None)

    def test_by_name_and_as_it_was(self):
        records = ((3, 1, 0), (2, 1, 0))
        with Unchanged(self, PROGRAM, records):
            self.assertEqual(keys_of(part=RIGHT, program=PROGRAM), ((1, "up"),))
            self.assertEqual(cast_sorted(records=records, part=CAST, program=PROGRAM), ((2, 1, 0), (3, 1, 0)))
            self.assertEqual(least_head(heads=records, part=CAST, program=PROGRAM), 1)


if __name__ == "__main__":
    unittest.main()
