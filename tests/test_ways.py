import unittest

from rowhaul.errors import NoPass, NoProgram, NoWays
from rowhaul.plans.ways import all_ways, hangs_on, is_ways, parts_of
from tests.programs import many_programs
from tests.things import ANYTHING, NAMES, SALE, Unchanged, alone, over_sale

UP = ((0, "up"),)
SORT = ("sort", 0, UP)
ONE_SORT = over_sale(SORT)
ONE_LOOK = alone(SALE, NAMES, ("look", 0, 1, 0, 0))
TWO = alone(SALE, NAMES, ("sort", 0, UP), ("look", 2, 1, 0, 0))
THREE = alone(SALE, NAMES, ("sort", 0, UP), ("look", 2, 1, 0, 0), ("sort", 3, ((1, "down"),)))
IDLE = over_sale(("sort", 0, ((0, "up"), (1, "down"))), ("keep", 1, 1), ("sort", 2, UP))
UNNEEDED = alone(SALE, NAMES, ("sort", 0, UP), ("look", 0, 1, 0, 0), ("keep", 0, 1))
NOTHING = alone(SALE)

KEPT, BLOCKED, MET = [((2, word),) for word in ("kept", "blocked", "met")]

# What is no ways of ONE_SORT, near to ((1, "half"),).
NEAR = [(), ((1, "kept"),), ((1, "met"),), ((1, "blocked"),), ((0, "half"),), ((2, "half"),), ((1, "half"), (1, "half")),
        ((1, "half"), (2, "half")), [(1, "half")], ([1, "half"],), ((1, "half", 0),), ((1,),), (1, "half"),
        ((True, "half"),), ((1, True),), ((1, None),), ((1, ["half"]),), ((1, ("half",)),), ((1, "HALF"),),
        ((1, "half "),), ((1, ""),), (("1", "half"),), ((None, "half"),), {1: "half"}, "half", ((-1, "half"),), None, True]


class AllWays(unittest.TestCase):
    def test_none(self):
        for program in (NOTHING, UNNEEDED, over_sale(("keep", 0, 1), ("gather", 1, 1, ()))):
            self.assertEqual(all_ways(program), [()])

    def test_one(self):
        self.assertEqual(all_ways(ONE_SORT), [((1, "half"),), ((1, "quarter"),)])
        self.assertEqual(all_ways(ONE_LOOK), [((2, "kept"),), ((2, "blocked"),), ((2, "met"),)])

    def test_two_and_three(self):
        self.assertEqual(all_ways(TWO), [((2, one), (3, other)) for one in ("half", "quarter")
                                         for other in ("kept", "blocked", "met")])
        self.assertEqual(all_ways(THREE), [((2, one), (3, other), (4, third)) for one in ("half", "quarter")
                                           for other in ("kept", "blocked", "met") for third in ("half", "quarter")])
        words = ("kept", "blocked", "met")
        narrow = alone(("read", "a", ((0, 1),), 3), ("look", 0, 0, 0, 0), ("look", 1, 0, 0, 0), ("look", 2, 0, 0, 0))
        self.assertEqual(all_ways(narrow), [((1, one), (2, other), (3, third)) for one in words for other in words
                                            for third in words])

    def test_idle_ones_are_left_out(self):
        self.assertEqual(all_ways(IDLE), [((1, "half"),), ((1, "quarter"),)])

    def test_those_not_needed_are_left_out(self):
        self.assertEqual(all_ways(alone(SALE, NAMES, ("sort", 0, UP), ("look", 0, 1, 0, 0), outputs=(2,))),
                         [((2, "half"),), ((2, "quarter"),)])
        self.assertEqual(all_ways(alone(SALE, NAMES, ("sort", 0, UP), ("look", 0, 1, 0, 0), outputs=(0,))), [()])

    def test_needed_as_another_may_fault(self):
        program = over_sale(SORT, ("map", 1, (("over", 1, ("at", 0)),)), ("keep", 0, 1))
        self.assertEqual(all_ways(program), [((1, "half"),), ((1, "quarter"),)])

    def test_a_new_list_each_time(self):
        told = all_ways(ONE_SORT)
        told.append(1)
        self.assertEqual(all_ways(ONE_SORT), [((1, "half"),), ((1, "quarter"),)])
        self.assertIsNot(all_ways(ONE_SORT), all_ways(ONE_SORT))

    def test_refused(self):
        for thing in ANYTHING:
            with self.assertRaises(NoProgram):
                all_ways(thing)

    def test_by_name_and_as_it_was(self):
        with Unchanged(self, THREE):
            self.assertEqual(len(all_ways(program=THREE)), 12)


class IsWays(unittest.TestCase):
    def test_all_ways_are(self):
        for program in [NOTHING, ONE_SORT, ONE_LOOK, TWO, THREE, IDLE, UNNEEDED] + many_programs(150):
            told = all_ways(program)
            for ways in told:
                self.assertIs(is_ways(program, ways), True)
            self.assertEqual(len(set(told)), len(told))
            if told != [()]:
                self.assertIs(is_ways(program, ()), False)

    def test_near_ones(self):
        self.assertIs(is_ways(ONE_SORT, ((1, "half"),)), True)
        for thing in NEAR:
            self.assertIs(is_ways(ONE_SORT, thing), False, thing)

    def test_a_pair_out_twice_exchanged(self):
        ways = ((2, "half"), (3, "met"), (4, "quarter"))
        self.assertIs(is_ways(THREE, ways), True)
        for at in range(3):
            self.assertIs(is_ways(THREE, ways[:at] + ways[at + 1:]), False)
            self.assertIs(is_ways(THREE, ways[:at + 1] + ways[at:]), False)
        self.assertIs(is_ways(THREE, (ways[1], ways[0], ways[2])), False)
        self.assertIs(is_ways(THREE, (ways[0], ways[2], ways[1])), False)
        self.assertIs(is_ways(THREE, ((2, "met"), (3, "met"), (4, "quarter"))), False)
        self.assertIs(is_ways(THREE, ((2, "half"), (3, "half"), (4, "quarter"))), False)
        self.assertIs(is_ways(THREE, ((2, "half"), (3, "met"), (4, "kept"))), False)

    def test_truths(self):
        program = alone(("read", "a", ((0, 1),), 3), ("sort", 0, UP))
        self.assertIs(is_ways(program, ((1, "half"),)), True)
        self.assertIs(is_ways(program, ((True, "half"),)), False)

    def test_idle_and_unneeded_ones_have_none(self):
        self.assertIs(is_ways(IDLE, ((1, "half"),)), True)
        self.assertIs(is_ways(IDLE, ((1, "half"), (3, "half"))), False)
        self.assertIs(is_ways(UNNEEDED, ()), True)
        self.assertIs(is_ways(UNNEEDED, ((2, "half"),)), False)

    def test_of_anything(self):
        for thing in ANYTHING:
            self.assertIs(is_ways(ONE_SORT, thing), False)
            self.assertIs(is_ways(ONE_SORT, (thing,)), False)
            self.assertIs(is_ways(ONE_SORT, ((1, thing),)), False)
            self.assertIs(is_ways(ONE_SORT, ((thing, "half"),)), repr(thing) == "1")
            self.assertIs(is_ways(NOTHING, thing), thing == ())

    def test_refused_and_by_name(self):
        for thing in ANYTHING:
            for other in ((), None, thing):
                with self.assertRaises(NoProgram):
                    is_ways(thing, other)
        self.assertIs(is_ways(thing=((1, "half"),), program=ONE_SORT), True)
        with Unchanged(self, ONE_SORT, NEAR):
            for thing in NEAR:
                is_ways(ONE_SORT, thing)


class Parts(unittest.TestCase):
    def test_each_kind_of_step(self):
        program = over_sale(("map", 0, (("at", 0),)), ("keep", 0, 1), ("carry", 2, 1, 0), ("gather", 3, 1, ()),
                            ("first", 4, 1))
        self.assertEqual(parts_of((program[0], (1, 5)), ()), tuple((k, "step") for k in range(1, 6)))

    def test_reads_have_none(self):
        self.assertEqual(parts_of(NOTHING, ()), ())
        self.assertEqual(parts_of(UNNEEDED, ()), ((4, "step"),))

    def test_sorts(self):
        for word in ("half", "quarter"):
            self.assertEqual(parts_of(ONE_SORT, ((1, word),)), ((1, "cast"), (1, "merge")))
            self.assertEqual(parts_of(IDLE, ((1, word),)), ((1, "cast"), (1, "merge"), (2, "step"), (3, "step")))

    def test_looks(self):
        self.assertEqual(parts_of(ONE_LOOK, KEPT), ((2, "step"),))
        self.assertEqual(parts_of(ONE_LOOK, BLOCKED), ((2, "block"),))
        self.assertEqual(parts_of(ONE_LOOK, MET), ((2, "left"), (2, "meet"), (2, "merge"), (2, "right")))

    def test_both_and_beside(self):
        program = over_sale(("both", 0, 0), ("beside", 1, 0))
        self.assertEqual(parts_of(program, ()), ((1, "both"), (2, "beside")))

    def test_they_rise(self):
        for program in many_programs(150):
            for ways in all_ways(program):
                told = parts_of(program, ways)
                self.assertEqual(list(told), sorted(set(told)))

    def test_refused(self):
        for thing in ANYTHING:
            for other in ((), ((1, "half"),), thing):
                with self.assertRaises(NoProgram):
                    parts_of(thing, other)
            with self.assertRaises(NoWays):
                parts_of(ONE_SORT, thing)
        for thing in NEAR:
            with self.assertRaises(NoWays):
                parts_of(ONE_SORT, thing)

    def test_by_name(self):
        self.assertEqual(parts_of(ways=KEPT, program=ONE_LOOK), ((2, "step"),))


class HangsOn(unittest.TestCase):
    def told(self, program, ways, expected):
        self.assertEqual({part: hangs_on(program, ways, part) for part in parts_of(program, ways)}, expected)

    def test_steps_and_a_sort(self):
        program = over_sale(("keep", 0, 1), ("carry", 1, 1, 0), ("sort", 2, UP), ("gather", 3, 1, ()), ("first", 4, 2))
        self.told(program, ((3, "half"),), {
            (1, "step"): (), (2, "step"): ((1, "step"),), (3, "cast"): ((2, "step"),), (3, "merge"): ((3, "cast"),),
            (4, "step"): ((3, "merge"),), (5, "step"): ((4, "step"),)})

    def test_looks_over_reads(self):
        self.told(ONE_LOOK, KEPT, {(2, "step"): ()})
        self.told(ONE_LOOK, BLOCKED, {(2, "block"): ()})
        self.told(ONE_LOOK, MET, {(2, "left"): (), (2, "right"): (), (2, "meet"): ((2, "left"), (2, "right")),
                                  (2, "merge"): ((2, "meet"),)})

    def test_looks_over_what_is_made(self):
        program = alone(SALE, NAMES, ("keep", 0, 1), ("keep", 1, 1), ("look", 2, 3, 0, 0), ("first", 4, 1))
        made = {(2, "step"): (), (3, "step"): ()}
        self.told(program, ((4, "kept"),), made | {(4, "step"): ((2, "step"), (3, "step")), (5, "step"): ((4, "step"),)})
        self.told(program, ((4, "blocked"),), made | {
            (4, "block"): ((2, "step"), (3, "step")), (5, "step"): ((4, "block"),)})
        self.told(program, ((4, "met"),), made | {
            (4, "left"): ((2, "step"),), (4, "right"): ((3, "step"),), (4, "meet"): ((4, "left"), (4, "right")),
            (4, "merge"): ((4, "meet"),), (5, "step"): ((4, "merge"),)})

    def test_both_and_beside(self):
        program = over_sale(("sort", 0, UP), ("both", 1, 0), ("beside", 0, 1), ("both", 2, 2), ("first", 2, 1),
                            ("first", 3, 1))
        self.told((program[0], (4, 5, 6)), ((1, "quarter"),), {
            (1, "cast"): (), (1, "merge"): ((1, "cast"),), (2, "both"): ((1, "merge"),), (3, "beside"): ((1, "merge"),),
            (4, "both"): ((2, "both"),), (5, "step"): ((2, "both"),), (6, "step"): ((3, "beside"),)})

    def test_makers_of_each_kind(self):
        program = alone(SALE, NAMES, ("look", 0, 1, 0, 0), ("both", 2, 2), ("first", 3, 1))
        for word, maker in (("kept", "step"), ("blocked", "block"), ("met", "merge")):
            self.assertEqual(hangs_on(program, ((2, word),), (3, "both")), ((2, maker),))
        self.assertEqual(hangs_on(IDLE, ((1, "half"),), (3, "step")), ((2, "step"),))

    def test_a_look_of_one_node_with_itself(self):
        program = over_sale(("keep", 0, 1), ("look", 1, 1, 0, 0))
        self.assertEqual(hangs_on(program, KEPT, (2, "step")), ((1, "step"),))
        self.assertEqual(hangs_on(program, MET, (2, "left")), ((1, "step"),))
        self.assertEqual(hangs_on(program, MET, (2, "right")), ((1, "step"),))

    def test_refused(self):
        for thing in ANYTHING + [(0, "step"), (2, "step"), (1, "step"), (1, "left"), (1, "read"), (1, "cast", 0), (1,),
                                 [1, "cast"], (True, "cast"), (1, ["cast"]), (1, None), (-1, "cast"), ("1", "cast"),
                                 ("file", 0), (10 ** 59, "cast"), ((1, "cast"),)]:
            with self.assertRaises(NoPass):
                hangs_on(ONE_SORT, ((1, "half"),), thing)
            with self.assertRaises(NoWays):
                hangs_on(ONE_SORT, thing, (1, "cast"))
            with self.assertRaises(NoWays):
                hangs_on(ONE_SORT, thing, thing)
            with self.assertRaises(NoProgram):
                hangs_on(thing, ((1, "half"),), (1, "cast"))
            with self.assertRaises(NoProgram):
                hangs_on(thing, thing, thing)

    def test_no_part_by_these_ways(self):
        for ways, part in ((KEPT, (2, "block")), (KEPT, (2, "merge")), (BLOCKED, (2, "step")), (MET, (2, "step")),
                           (MET, (2, "block")), (MET, (2, "cast"))):
            with self.assertRaises(NoPass):
                hangs_on(ONE_LOOK, ways, part)

    def test_by_name(self):
        self.assertEqual(hangs_on(part=(1, "merge"), ways=((1, "half"),), program=ONE_SORT), ((1, "cast"),))


if __name__ == "__main__":
    unittest.main()
