import unittest
from random import Random

from rowhaul.errors import NoProgram, NoWays, TooWide
from rowhaul.plans.ways import all_ways, parts_of
from rowhaul.search.sets import MOST_SETS, closed_sets
from tests.plans import busy_program
from tests.programs import some_program
from tests.searches import all_closed
from tests.things import ANYTHING, NAMES, SALE, Unchanged, alone, over_sale

UP = ((0, "up"),)
KEEP = ("keep", 0, 1)

IN_A_ROW = over_sale(KEEP, ("keep", 1, 1), ("keep", 2, 1), ("keep", 3, 1))


def fan_out(many, *more):
    """Keeps that stand side by side, over a read: two to the power of so many closed sets."""
    nodes = (SALE,) + (KEEP,) * many + more
    return (nodes, tuple(range(1, len(nodes))))


# Three rows of keeps, of three, of two and of four parts: 4 * 3 * 5 = 60 sets.
SIXTY = ((SALE, KEEP, ("keep", 1, 1), ("keep", 2, 1), KEEP, ("keep", 4, 1), KEEP, ("keep", 6, 1), ("keep", 7, 1),
          ("keep", 8, 1)), (3, 5, 9))
# Keeps and boths that hang on one another so that there are just 61 sets.
SIXTY_ONE = ((SALE, ("both", 0, 0), ("both", 1, 1), ("keep", 1, 1), ("keep", 2, 1), ("both", 3, 0), ("keep", 1, 1),
              ("keep", 1, 1), ("both", 1, 2)), tuple(range(1, 9)))


class Sets(unittest.TestCase):
    def test_reads_alone(self):
        self.assertEqual(closed_sets(over_sale(), ()), ((),))

    def test_one_part(self):
        self.assertEqual(closed_sets(over_sale(KEEP), ()), ((), ((1, "step"),)))

    def test_in_a_row(self):
        parts = tuple((k, "step") for k in range(1, 5))
        self.assertEqual(closed_sets(IN_A_ROW, ()), tuple(parts[:many] for many in range(5)))

    def test_side_by_side(self):
        one, other = (1, "step"), (2, "step")
        self.assertEqual(closed_sets(fan_out(2), ()), ((), (one,), (one, other), (other,)))

    def test_a_sort(self):
        cast, merge = (1, "cast"), (1, "merge")
        for word in ("half", "quarter"):
            self.assertEqual(closed_sets(over_sale(("sort", 0, UP)), ((1, word),)), ((), (cast,), (cast, merge)))

    def test_looks_by_their_ways(self):
        program = alone(SALE, NAMES, ("look", 0, 1, 0, 0))
        left, right, meet, merge = [(2, word) for word in ("left", "right", "meet", "merge")]
        self.assertEqual(closed_sets(program, ((2, "kept"),)), ((), ((2, "step"),)))
        self.assertEqual(closed_sets(program, ((2, "blocked"),)), ((), ((2, "block"),)))
        self.assertEqual(closed_sets(program, ((2, "met"),)), (
            (), (left,), (left, meet, merge, right), (left, meet, right), (left, right), (right,)))

    def test_a_part_behind_those_of_two_nodes(self):
        program = over_sale(KEEP, KEEP, ("both", 1, 2))
        one, other, both = (1, "step"), (2, "step"), (3, "both")
        self.assertEqual(closed_sets(program, ()), ((), (one,), (one, other), (one, other, both), (other,)))

    def test_what_is_not_needed_is_no_part(self):
        self.assertEqual(closed_sets(over_sale(KEEP, KEEP, KEEP), ()), ((), ((3, "step"),)))

    def test_all_of_many(self):
        chance = Random(31)
        wide = 0
        for _ in range(120):
            program = busy_program(chance) if chance.random() < 0.6 else some_program(chance)
            for ways in all_ways(program)[:6]:
                if len(parts_of(program, ways)) > 9:
                    continue
                expected = all_closed(program, ways)
                if len(expected) > 60:
                    wide += 1
                    with self.assertRaises(TooWide):
                        closed_sets(program, ways)
                    continue
                told = closed_sets(program, ways)
                self.assertEqual(told, tuple(expected))
                self.assertEqual((told[0], len(set(told))), ((), len(told)))
                self.assertIn(parts_of(program, ways), told)

    def test_sixty_and_one_more(self):
        self.assertEqual(MOST_SETS, 60)
        self.assertEqual(len(all_closed(SIXTY, ())), 60)
        self.assertEqual(closed_sets(SIXTY, ()), tuple(all_closed(SIXTY, ())))
        for program, many in ((SIXTY_ONE, 61), (fan_out(6), 64), (fan_out(9), 512)):
            self.assertEqual(len(all_closed(program, ())), many)
            with self.assertRaises(TooWide):
                closed_sets(program, ())

    def test_by_the_ways_that_are_handed_in(self):
        program = alone(SALE, NAMES, ("look", 0, 1, 0, 0), ("look", 0, 1, 0, 0), ("look", 0, 1, 0, 0), outputs=(2, 3, 4))
        kept = ((2, "kept"), (3, "kept"), (4, "kept"))
        self.assertEqual(len(closed_sets(program, kept)), 8)
        self.assertEqual(len(closed_sets(program, ((2, "met"),) + kept[1:])), 6 * 2 * 2)
        for ways in (((2, "met"), (3, "met"), (4, "kept")), ((2, "met"), (3, "met"), (4, "met"))):
            with self.assertRaises(TooWide):
                closed_sets(program, ways)


class Refused(unittest.TestCase):
    def test_no_program(self):
        for thing in ANYTHING:
            with self.assertRaises(NoProgram):
                closed_sets(thing, None)

    def test_no_ways(self):
        for program in (over_sale(("sort", 0, UP)), fan_out(6, ("sort", 0, UP))):
            for thing in ANYTHING + [((7, "kept"),), ((1, "kept"),), ((True, "half"),)]:
                with self.assertRaises(NoWays):
                    closed_sets(program, thing)

    def test_too_wide_behind_these(self):
        with self.assertRaises(NoWays):
            closed_sets(fan_out(6), ((1, "half"),))
        with self.assertRaises(TooWide):
            closed_sets(fan_out(6), ())

    def test_by_name_and_as_it_was(self):
        program = over_sale(("sort", 0, UP))
        with Unchanged(self, program):
            self.assertEqual(len(closed_sets(ways=((1, "half"),), program=program)), 3)


if __name__ == "__main__":
    unittest.main()
