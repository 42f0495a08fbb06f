import unittest
from itertools import combinations
from random import Random

from rowhaul.errors import NoPass, NoProgram, NoWays
from rowhaul.plans.passes import driver_of, fixed, is_pass, quarters, stored_of
from rowhaul.plans.ways import all_ways, hangs_on, parts_of
from tests.programs import many_programs
from tests.things import ANYTHING, NAMES, SALE, Unchanged, alone, over_sale

UP = ((0, "up"),)
DRIVERS = ("merge", "meet", "block", "both", "beside")

# 0 keep 1 carry 2 sort 3 gather 4 first 5, the sort half.
LONG = over_sale(("keep", 0, 1), ("carry", 1, 1, 0), ("sort", 2, UP), ("gather", 3, 1, ()), ("first", 4, 2))
HALF = ((3, "half"),)
LOOK = alone(SALE, NAMES, ("keep", 0, 1), ("keep", 1, 1), ("look", 2, 3, 0, 0), ("first", 4, 1))
KEPT, BLOCKED, MET = [((4, word),) for word in ("kept", "blocked", "met")]
K1, C2, CAST, MERGE, G4, F5 = (1, "step"), (2, "step"), (3, "cast"), (3, "merge"), (4, "step"), (5, "step")
LEFT, RIGHT, MEET, LOOK_MERGE = (4, "left"), (4, "right"), (4, "meet"), (4, "merge")


def slow_is_pass(program, ways, one):
    """Said once more, part by part, over a row of unlike, rising parts."""
    nodes, _ = program
    makers = {}
    for k, word in parts_of(program, ways):
        if word in ("step", "merge", "block", "both", "beside"):
            makers[k] = (k, word)
    drivers = [part for part in one if part[1] in DRIVERS]
    if len(drivers) > 1:
        return False
    files = set()
    for k, word in one:
        if word in DRIVERS:
            continue
        stream = nodes[k][2 if word == "right" else 1]
        if makers.get(stream) not in one:
            files.add(stream)
        if word == "step" and nodes[k][0] == "look" and makers.get(nodes[k][2]) in one:
            return False
    if drivers:
        return not files and (drivers[0][1] != "meet" or one == tuple(drivers))
    return len(files) == 1


class IsPass(unittest.TestCase):
    def are(self, program, ways, *told):
        for one in told:
            self.assertIs(is_pass(program, ways, one), True, one)

    def are_none(self, program, ways, *told):
        for one in told:
            self.assertIs(is_pass(program, ways, one), False, one)

    def test_by_one_file(self):
        self.are(LONG, HALF, (K1,), (C2,), (CAST,), (G4,), (F5,), (K1, C2), (C2, CAST), (K1, C2, CAST), (G4, F5))
        self.are_none(LONG, HALF, (K1, CAST), (K1, G4), (C2, F5), (K1, C2, G4), (CAST, G4), (CAST, F5))

    def test_two_streams_from_one_file(self):
        program = over_sale(("keep", 0, 1), ("first", 0, 1), ("keep", 1, 1), ("both", 0, 0))
        nodes, _ = program
        program = (nodes, (1, 2, 3, 4))
        self.are(program, (), ((1, "step"), (2, "step")), ((1, "step"), (2, "step"), (3, "step")),
                 ((1, "step"), (3, "step")), ((3, "step"),))
        self.are_none(program, (), ((2, "step"), (3, "step")))

    def test_by_a_driver(self):
        self.are(LONG, HALF, (MERGE,), (MERGE, G4), (MERGE, G4, F5))
        self.are_none(LONG, HALF, (MERGE, F5), (K1, MERGE), (CAST, MERGE), (K1, C2, CAST, MERGE), (C2, CAST, MERGE, G4))

    def test_a_block_and_its_followers(self):
        self.are(LOOK, BLOCKED, ((4, "block"),), ((4, "block"), F5))
        self.are_none(LOOK, BLOCKED, ((2, "step"), (4, "block")), ((3, "step"), (4, "block"), F5))

    def test_both_and_beside(self):
        program = over_sale(("both", 0, 0), ("beside", 0, 0), ("first", 1, 1), ("first", 2, 1))
        program = (program[0], (3, 4))
        self.are(program, (), ((1, "both"),), ((2, "beside"),), ((1, "both"), (3, "step")), ((2, "beside"), (4, "step")))
        self.are_none(program, (), ((1, "both"), (2, "beside")), ((1, "both"), (4, "step")), ((2, "beside"), (3, "step")),
                      ((1, "both"), (2, "beside"), (3, "step"), (4, "step")))

    def test_a_meet_stands_by_itself(self):
        program = over_sale(("keep", 0, 1), ("look", 1, 0, 0, 0), ("keep", 0, 1))
        program = (program[0], (2, 3))
        ways = ((2, "met"),)
        left, right, meet, merge = [(2, word) for word in ("left", "right", "meet", "merge")]
        self.are(program, ways, (meet,), (left,), (right,), (merge,), ((1, "step"), left), (right, (3, "step")))
        self.are_none(program, ways, (left, meet), (left, meet, right), (meet, (3, "step")), (meet, merge),
                      (left, meet, merge, right))
        self.are_none(program, ways, (left, right))

    def test_left_and_right_of_one_file(self):
        program = over_sale(("look", 0, 0, 0, 0))
        self.are(program, ((1, "met"),), ((1, "left"), (1, "right")), ((1, "left"),), ((1, "right"),))

    def test_two_drivers(self):
        program = over_sale(("sort", 0, UP), ("sort", 0, ((1, "up"),)))
        program = (program[0], (1, 2))
        ways = ((1, "half"), (2, "quarter"))
        self.are(program, ways, ((1, "cast"), (2, "cast")), ((1, "merge"),), ((2, "merge"),))
        self.are_none(program, ways, ((1, "merge"), (2, "merge")), ((1, "cast"), (2, "merge")))

    def test_one_file_two_files(self):
        program = alone(SALE, NAMES, ("keep", 0, 1), ("keep", 1, 1), outputs=(2, 3))
        self.are(program, (), ((2, "step"),), ((3, "step"),))
        self.are_none(program, (), ((2, "step"), (3, "step")))

    def test_a_kept_table_made_in_the_pass(self):
        self.are(LOOK, KEPT, ((2, "step"), (4, "step")), ((2, "step"), (4, "step"), F5), ((4, "step"),), ((3, "step"),))
        self.are_none(LOOK, KEPT, ((2, "step"), (3, "step"), (4, "step")), ((3, "step"), (4, "step")))
        itself = over_sale(("keep", 0, 1), ("look", 1, 1, 0, 0))
        self.are(itself, ((2, "kept"),), ((2, "step"),))
        self.are_none(itself, ((2, "kept"),), ((1, "step"), (2, "step")))
        merged = over_sale(("sort", 0, UP), ("keep", 1, 1), ("look", 2, 1, 0, 0))
        self.are(merged, ((1, "half"), (3, "kept")), ((1, "merge"), (2, "step")), ((2, "step"), (3, "step")))
        self.are_none(merged, ((1, "half"), (3, "kept")), ((1, "merge"), (2, "step"), (3, "step")))

    def test_the_table_may_be_the_file(self):
        itself = over_sale(("look", 0, 0, 0, 0))
        self.are(itself, ((1, "kept"),), ((1, "step"),))

    def test_rising_unlike_and_there(self):
        self.are_none(LONG, HALF, (C2, K1), (K1, K1), (CAST, C2, K1), (K1, K1, C2), (), ((0, "step"),), ((6, "step"),),
                      ((3, "step"),), ((3, "block"),), [K1], K1, ([1, "step"],), ((1, "step", 0),), ((True, "step"),),
                      ((1, ["step"]),), ((1, None),), (None,), {1: "step"}, {K1: 1}, "step")

    def test_of_anything(self):
        for thing in ANYTHING:
            self.are_none(LONG, HALF, thing, (thing,), (K1, thing), (thing, K1), ((1, thing),))
            self.assertIs(is_pass(LONG, HALF, ((thing, "step"),)), repr(thing) in ("1", "2"))

    def test_all_sets_of_parts(self):
        chance = Random(3)
        programs = [LONG, LOOK] + many_programs(60, 5)
        for program in programs:
            ways = chance.choice(all_ways(program))
            parts = parts_of(program, ways)[:8]
            for many in range(1, len(parts) + 1):
                for one in combinations(parts, many):
                    self.assertIs(is_pass(program, ways, one), slow_is_pass(program, ways, one), (program, ways, one))

    def test_refused(self):
        for thing in ANYTHING:
            with self.assertRaises(NoProgram):
                is_pass(thing, HALF, (K1,))
            with self.assertRaises(NoProgram):
                is_pass(thing, thing, thing)
            with self.assertRaises(NoWays):
                is_pass(LONG, thing, (K1,))
            with self.assertRaises(NoWays):
                is_pass(LONG, thing, thing)

    def test_by_name_and_as_it_was(self):
        self.assertIs(is_pass(thing=(K1,), ways=HALF, program=LONG), True)
        thing = [[1, "step"]]
        with Unchanged(self, LONG, HALF, thing):
            is_pass(LONG, HALF, thing)


class DriverOf(unittest.TestCase):
    def test_a_file(self):
        self.assertEqual(driver_of(LONG, HALF, (K1, C2, CAST)), ("file", 0))
        self.assertEqual(driver_of(LONG, HALF, (C2, CAST)), ("file", 1))
        self.assertEqual(driver_of(LONG, HALF, (F5,)), ("file", 4))
        self.assertEqual(driver_of(LOOK, MET, (RIGHT,)), ("file", 3))
        self.assertEqual(driver_of(LOOK, MET, ((2, "step"), LEFT)), ("file", 0))
        self.assertEqual(driver_of(LOOK, MET, ((3, "step"), RIGHT)), ("file", 1))

    def test_each_kind(self):
        self.assertEqual(driver_of(LONG, HALF, (MERGE, G4)), MERGE)
        self.assertEqual(driver_of(LOOK, MET, (MEET,)), MEET)
        self.assertEqual(driver_of(LOOK, MET, (LOOK_MERGE, F5)), LOOK_MERGE)
        self.assertEqual(driver_of(LOOK, BLOCKED, ((4, "block"), F5)), (4, "block"))
        program = over_sale(("both", 0, 0), ("beside", 0, 0), ("first", 1, 1), ("first", 2, 1))
        program = (program[0], (3, 4))
        self.assertEqual(driver_of(program, (), ((1, "both"), (3, "step"))), (1, "both"))
        self.assertEqual(driver_of(program, (), ((2, "beside"),)), (2, "beside"))


class StoredOf(unittest.TestCase):
    def told(self, program, ways, one, *expected):
        self.assertEqual(stored_of(program, ways, one), expected)

    def test_what_only_parts_of_the_pass_use(self):
        self.told(LONG, HALF, (K1, C2, CAST))
        self.told(LONG, HALF, (CAST,))
        self.told(LOOK, MET, (MEET,))
        self.told(LOOK, MET, (RIGHT,))

    def test_a_stream_of_a_part_not_in_it(self):
        self.told(LONG, HALF, (K1,), 1)
        self.told(LONG, HALF, (K1, C2), 2)
        self.told(LONG, HALF, (MERGE,), 3)
        self.told(LOOK, MET, ((2, "step"),), 2)
        self.told(LOOK, MET, ((3, "step"),), 3)
        self.told(LOOK, MET, ((2, "step"), LEFT))
        self.told(LOOK, KEPT, ((2, "step"), (4, "step")), 4)

    def test_of_a_part_in_it_and_one_that_is_not(self):
        program = over_sale(("keep", 0, 1), ("first", 1, 1), ("first", 1, 2))
        program = (program[0], (2, 3))
        self.told(program, (), ((1, "step"), (2, "step")), 1, 2)
        self.told(program, (), ((1, "step"), (2, "step"), (3, "step")), 2, 3)

    def test_outputs(self):
        self.told((LONG[0], (1, 5)), HALF, (K1, C2, CAST), 1)
        self.told((LONG[0], (1, 2, 5)), HALF, (K1, C2, CAST), 1, 2)
        self.told((LONG[0], (0, 5)), HALF, (K1, C2, CAST))
        self.told((LONG[0], (3, 4, 5)), HALF, (MERGE, G4, F5), 3, 4, 5)
        self.told(LONG, HALF, (MERGE, G4, F5), 5)

    def test_kept_tables(self):
        self.told(LOOK, KEPT, ((3, "step"),), 3)
        self.told(LOOK, KEPT, ((2, "step"),), 2)

    def test_inputs_of_a_block(self):
        self.told(LOOK, BLOCKED, ((2, "step"),), 2)
        self.told(LOOK, BLOCKED, ((3, "step"),), 3)

    def test_inputs_of_both_and_beside(self):
        for word in ("both", "beside"):
            program = over_sale(("keep", 0, 1), ("keep", 0, 1), (word, 1, 2))
            self.told(program, (), ((1, "step"), (2, "step")), 1, 2)
            self.told(program, (), ((1, "step"),), 1)
            self.told(program, (), ((2, "step"),), 2)
            self.told(program, (), ((3, word),), 3)

    def test_against_the_words_of_the_document(self):
        chance = Random(8)
        for program in many_programs(120, 6):
            ways = chance.choice(all_ways(program))
            parts = parts_of(program, ways)
            makers = {k: (k, word) for k, word in parts if word in ("step", "merge", "block", "both", "beside")}
            for part in parts:
                one = tuple(sorted({part} | {other for other in parts if chance.random() < 0.5}))
                if not is_pass(program, ways, one):
                    one = (part,)
                if not is_pass(program, ways, one):
                    continue
                made = [k for k in makers if makers[k] in one]
                hung = {other for rest in parts if rest not in one for other in hangs_on(program, ways, rest)}
                self.assertEqual(stored_of(program, ways, one), tuple(
                    sorted(k for k in made if k in program[1] or makers[k] in hung)))


class Refused(unittest.TestCase):
    def test_in_the_order_in_which_they_are_handed_in(self):
        for ask in (driver_of, stored_of, quarters, fixed):
            for thing in ANYTHING + [(C2, K1), (K1, CAST), (CAST, MERGE), ((0, "step"),), [K1], K1]:
                with self.assertRaises(NoPass):
                    ask(LONG, HALF, thing)
                with self.assertRaises(NoWays):
                    ask(LONG, thing, (K1,))
                with self.assertRaises(NoWays):
                    ask(LONG, thing, thing)
                with self.assertRaises(NoProgram):
                    ask(thing, HALF, (K1,))
                with self.assertRaises(NoProgram):
                    ask(thing, thing, thing)
            with self.assertRaises(NoWays):
                ask(LOOK, HALF, ((2, "step"),))

    def test_by_name_and_as_it_was(self):
        with Unchanged(self, LONG, HALF):
            self.assertEqual(driver_of(one=(MERGE,), ways=HALF, program=LONG), MERGE)
            self.assertEqual(stored_of(one=(MERGE,), ways=HALF, program=LONG), (3,))
            self.assertEqual(quarters(one=(MERGE,), ways=HALF, program=LONG), 1)
            self.assertEqual(fixed(one=(C2,), ways=HALF, program=LONG), 2 + 3 + 1)


class Quarters(unittest.TestCase):
    def test_each_kind(self):
        self.assertEqual(quarters(LONG, HALF, (CAST,)), 2)
        self.assertEqual(quarters(LONG, ((3, "quarter"),), (CAST,)), 1)
        self.assertEqual(quarters(LONG, HALF, (MERGE,)), 1)
        self.assertEqual(quarters(LONG, HALF, (MERGE, G4, F5)), 1)
        self.assertEqual(quarters(LONG, HALF, (K1, C2, CAST)), 2)
        self.assertEqual(quarters(LONG, HALF, (K1, C2)), 0)
        self.assertEqual(quarters(LOOK, MET, (LEFT,)), 1)
        self.assertEqual(quarters(LOOK, MET, (RIGHT,)), 1)
        self.assertEqual(quarters(LOOK, MET, (MEET,)), 3)
        self.assertEqual(quarters(LOOK, MET, (LOOK_MERGE,)), 1)
        self.assertEqual(quarters(LOOK, BLOCKED, ((4, "block"),)), 2)
        self.assertEqual(quarters(LOOK, KEPT, ((4, "step"),)), 0)

    def test_several(self):
        program = over_sale(("sort", 0, UP), ("sort", 0, ((1, "up"),)), ("look", 0, 0, 0, 0))
        program = (program[0], (1, 2, 3))
        ways = ((1, "half"), (2, "quarter"), (3, "met"))
        one = ((1, "cast"), (2, "cast"), (3, "left"), (3, "right"))
        self.assertEqual(quarters(program, ways, one), 5)
        self.assertEqual(quarters(program, ways, one[:2]), 3)
        behind = over_sale(("sort", 0, UP), ("sort", 1, ((1, "up"),)), ("sort", 1, ((1, "down"),)))
        ways = ((1, "half"), (2, "half"), (3, "quarter"))
        self.assertEqual(quarters((behind[0], (2, 3)), ways, ((1, "merge"), (2, "cast"), (3, "cast"))), 4)


class Fixed(unittest.TestCase):
    def test_a_file_and_what_holds_nothing(self):
        self.assertEqual(fixed(LONG, HALF, (K1,)), 2)
        self.assertEqual(fixed(LONG, HALF, (CAST,)), 3)
        self.assertEqual(fixed(LONG, HALF, (F5,)), 1)
        idle = over_sale(("sort", 0, UP), ("keep", 1, 1), ("sort", 2, UP))
        self.assertEqual(fixed(idle, ((1, "half"),), ((3, "step"),)), 2)

    def test_carry_and_gather(self):
        self.assertEqual(fixed(LONG, HALF, (C2,)), 1 + 2 + 3)
        self.assertEqual(fixed(LONG, HALF, (G4,)), 1 + 3 + 1)
        wide = over_sale(("gather", 0, 2, (("count",), ("sum", 0))))
        self.assertEqual(fixed(wide, (), ((1, "step"),)), 4 + 2 + 4)

    def test_map(self):
        program = over_sale(("map", 0, (1, 2, 3, 4, 5)))
        self.assertEqual(fixed(program, (), ((1, "step"),)), 2 + 5)

    def test_merge_hands_on_what_it_holds(self):
        self.assertEqual(fixed(LONG, HALF, (MERGE,)), 0)
        self.assertEqual(fixed(LONG, HALF, (MERGE, G4)), 1 + 1)
        self.assertEqual(fixed(LOOK, MET, (LOOK_MERGE,)), 0)
        self.assertEqual(fixed(LOOK, MET, (LOOK_MERGE, F5)), 0)

    def test_looks(self):
        self.assertEqual(fixed(LOOK, KEPT, ((4, "step"),)), 20 * 3 + 2 + 5)
        self.assertEqual(fixed(LOOK, KEPT, ((2, "step"), (4, "step"), F5)), 20 * 3 + 2 + 5)
        self.assertEqual(fixed(LOOK, BLOCKED, ((4, "block"),)), 3)
        self.assertEqual(fixed(LOOK, BLOCKED, ((4, "block"), F5)), 3)
        self.assertEqual(fixed(LOOK, MET, (MEET,)), 3 + 5 + 1)
        self.assertEqual(fixed(LOOK, MET, (LEFT,)), 2)
        self.assertEqual(fixed(LOOK, MET, (RIGHT,)), 3)

    def test_the_most_of_the_kept_one_counts(self):
        program = alone(SALE, NAMES, ("first", 1, 7), ("look", 0, 2, 0, 0))
        self.assertEqual(fixed(program, ((3, "kept"),), ((3, "step"),)), 7 * 3 + 2 + 5)
        empty = alone(SALE, ("read", "none", ((0, 1),), 0), ("look", 0, 1, 0, 0))
        self.assertEqual(fixed(empty, ((2, "kept"),), ((2, "step"),)), 2 + 3)

    def test_both_and_beside(self):
        program = over_sale(("both", 0, 0), ("beside", 0, 0), ("map", 1, (1,)), ("map", 2, (1, 2, 3)))
        program = (program[0], (3, 4))
        self.assertEqual(fixed(program, (), ((1, "both"),)), 2)
        self.assertEqual(fixed(program, (), ((2, "beside"),)), 4)
        self.assertEqual(fixed(program, (), ((1, "both"), (3, "step"))), 2 + 1)
        self.assertEqual(fixed(program, (), ((2, "beside"), (4, "step"))), 4 + 3)

    def test_steps_one_behind_another(self):
        program = over_sale(("map", 0, (1, 2, 3)), ("keep", 1, 1), ("carry", 2, 1, 0), ("first", 3, 1),
                            ("map", 4, (1, 2, 3, 4, 5, 6, 7)), ("gather", 5, 6, ()))
        steps = tuple((k, "step") for k in range(1, 7))
        self.assertEqual(fixed(program, (), steps[:2]), 2 + 3)
        self.assertEqual(fixed(program, (), steps[:4]), 1 + 2 + 3 + 4)
        self.assertEqual(fixed(program, (), steps[:5]), 1 + 2 + 3 + 4 + 7)
        self.assertEqual(fixed(program, (), steps), 1 + 6 + 2 + 3 + 4 + 7 + 6)

    def test_the_greatest_of_several_streams(self):
        program = over_sale(("keep", 0, 1), ("map", 1, (1,)), ("map", 1, (1, 2)), ("map", 2, (1, 2, 3)),
                            ("carry", 3, 1, 0), ("carry", 0, 1, 0))
        program = (program[0], (4, 5, 6))
        steps = tuple((k, "step") for k in range(1, 7))
        self.assertEqual(fixed(program, (), steps), 1 + 1 + 2 + max(1 + 3, 2 + 3, 3))
        self.assertEqual(fixed(program, (), steps[:3]), 2 + 2)
        self.assertEqual(fixed(program, (), steps[:5]), 1 + 2 + 2 + 3)

    def test_several_that_hold(self):
        program = alone(SALE, NAMES, ("look", 0, 1, 0, 0), ("look", 0, 0, 1, 1), ("gather", 2, 1, ()),
                        ("gather", 3, 3, ()), outputs=(4, 5))
        ways = ((2, "kept"), (3, "kept"))
        one = ((2, "step"), (3, "step"), (4, "step"), (5, "step"))
        self.assertEqual(fixed(program, ways, one), 60 + 120 + 1 + 3 + 2 + max(5 + 1, 4 + 3))

    def test_a_widest_part_that_hands_on_nothing_wide(self):
        program = over_sale(("map", 0, (1, 2, 3, 4, 5, 6, 7, 8)), ("sort", 1, UP))
        self.assertEqual(fixed(program, ((2, "half"),), ((1, "step"), (2, "cast"))), 10)


if __name__ == "__main__":
    unittest.main()
