import unittest
from random import Random

from rowhaul.errors import NoCounts, NoNumber, NoPass, NoPlan, NoProgram, NoWays
from rowhaul.machine.passes import Doing
from rowhaul.merges.trees import least, runs_of
from rowhaul.plans.passes import driver_of, fan_of, fits, size_of, stored_of
from rowhaul.plans.words import mosts_of, plan_words, words_of
from rowhaul.programs.forms import inputs_of, most_of, width_of
from rowhaul.programs.plain import counts_of
from tests.plans import begun_store, busy_program, busy_tables, casters_of, room_and_plan
from tests.programs import many_programs, some_program
from tests.things import ANYTHING, NO_WHOLE, Unchanged, alone

UP = ((0, "up"),)
SALE = ("read", "sale", ((0, 9), (0, 99)), 60)
NAMES = ("read", "names", ((0, 9), (0, 99), (0, 9)), 20)
LESS = ("less", ("at", 0), 9)


def cast_width(program, part):
    """The width of what a part casts."""
    k, word = part
    if word in ("cast", "meet"):
        return width_of(program, k) + (word == "meet")
    return width_of(program, inputs_of(program, k)[word == "right"]) + (word == "left")


def cast_many(program, part, counts):
    k, word = part
    return counts[k] if word == "meet" else counts[inputs_of(program, k)[word == "right"]]


def said_words(program, room, ways, one, counts):
    """The words of a pass, as 6.1 says them."""
    driver = driver_of(program, ways, one)
    size = [counts[k] * width_of(program, k) for k in range(len(program[0]))]
    words = 0
    if driver[0] == "file":
        words += size[driver[1]]
    elif driver[1] in ("both", "beside"):
        words += sum(size[k] for k in inputs_of(program, driver[0]))
    elif driver[1] == "block":
        i, j = inputs_of(program, driver[0])
        words += size[i] + size[j] * len(runs_of(counts[i], size_of(program, room, ways, driver)))
    else:
        for caster, fan in zip(casters_of(program, driver), fan_of(program, room, ways, driver)):
            many = cast_many(program, caster, counts)
            runs = runs_of(many, size_of(program, room, ways, caster))
            words += (many + 2 * least(runs, fan)[0]) * cast_width(program, caster)
    for k, word in one:
        if word == "step" and program[0][k][0] == "look":
            words += size[inputs_of(program, k)[1]]
        if word in ("cast", "left", "right", "meet"):
            words += cast_many(program, (k, word), counts) * cast_width(program, (k, word))
    return words + sum(size[k] for k in stored_of(program, ways, one))


class ByHand(unittest.TestCase):
    def told(self, program, room, ways, one, counts, expected):
        for _ in range(2):
            self.assertEqual(words_of(program, room, ways, one, counts), expected)
        self.assertEqual(said_words(program, room, ways, one, counts), expected)

    def test_a_file(self):
        program = alone(SALE, ("keep", 0, LESS), ("map", 1, (1, 2, 3)), outputs=(1, 2))
        both = ((1, "step"), (2, "step"))
        self.told(program, 100, (), both, (10, 7, 7), 20 + 14 + 21)
        self.told(program, 100, (), both, (10, 0, 0), 20)
        self.told(program, 100, (), both, (0, 0, 0), 0)
        self.told(program, 100, (), both, (60, 60, 60), 120 + 120 + 180)
        self.told(program, 100, (), both[:1], (10, 7, 7), 20 + 14)
        self.told(program, 100, (), both[1:], (10, 7, 7), 14 + 21)

    def test_a_node_that_is_stored_for_another_pass(self):
        program = alone(SALE, ("keep", 0, LESS), ("map", 1, (1,)))
        self.told(program, 100, (), ((1, "step"), (2, "step")), (10, 7, 7), 20 + 7)
        self.told(program, 100, (), ((1, "step"),), (10, 7, 7), 20 + 14)

    def test_runs_of_a_cast(self):
        program = alone(SALE, ("sort", 0, UP))
        half, cast, merge = ((1, "half"),), ((1, "cast"),), ((1, "merge"),)
        for many in (0, 1, 5, 6, 7, 17, 18, 19, 60):
            self.told(program, 24, half, cast, (many, many), 2 * many + 2 * many)
        # Runs of 6; a merge reads 3 together.
        self.assertEqual((size_of(program, 24, half, cast[0]), fan_of(program, 24, half, merge[0])), (6, (3,)))
        for many in (0, 1, 6, 7, 18):
            self.told(program, 24, half, merge, (many, many), 2 * many + 2 * many)
        # One more run: the last two, of 6 and 1, become one.
        self.told(program, 24, half, merge, (19, 19), 4 * 19 + 2 * 2 * (6 + 1))
        self.told(program, 24, half, merge, (24, 24), 4 * 24 + 2 * 2 * (6 + 6))
        # Five runs become three by three of them, or by two twice: 6, 6 and 1 together are least.
        self.told(program, 24, half, merge, (25, 25), 4 * 25 + 2 * 2 * 13)
        # Ten runs become three: of three, of three, and of four, two of which become one ahead.
        self.told(program, 24, half, merge, (60, 60), 4 * 60 + 2 * 2 * (18 + 18 + 12 + 24))

    def test_the_fan_from_two_on(self):
        program = alone(SALE, ("sort", 0, UP))
        half, merge = ((1, "half"),), ((1, "merge"),)
        for room, fan, many, moved in ((16, 2, 8, 0), (16, 2, 9, 5), (16, 2, 12, 8), (16, 2, 16, 16), (24, 3, 12, 0),
                                       (32, 4, 32, 0), (32, 4, 33, 9), (80, 10, 60, 0)):
            self.assertEqual(fan_of(program, room, half, merge[0]), (fan,))
            self.told(program, room, half, merge, (many, many), 4 * many + 4 * moved)

    def test_a_quarter_casts_shorter_runs(self):
        program = alone(SALE, ("sort", 0, UP), ("keep", 1, 1), outputs=(1,))
        quarter, merge = ((1, "quarter"),), ((1, "merge"),)
        self.assertEqual((size_of(program, 32, quarter, (1, "cast")), fan_of(program, 32, quarter, merge[0])), (4, (4,)))
        self.told(program, 32, quarter, merge, (16, 16, 16), 4 * 16)
        self.told(program, 32, quarter, merge, (17, 17, 17), 4 * 17 + 4 * 5)

    def test_a_merge_and_a_cast_in_one(self):
        program = alone(SALE, ("sort", 0, UP), ("sort", 1, ((1, "up"),)))
        ways = ((1, "half"), (2, "half"))
        one = ((1, "merge"), (2, "cast"))
        self.told(program, 80, ways, one, (30, 30, 30), 60 + 60)
        self.told(program, 80, ways, one, (0, 0, 0), 0)

    def test_a_meet(self):
        program = alone(SALE, NAMES, ("look", 0, 1, 0, 0))
        ways = ((2, "met"),)
        left, right, meet, merge = [((2, word),) for word in ("left", "right", "meet", "merge")]
        room = 120
        self.assertEqual([size_of(program, room, ways, one[0]) for one in (left, right, meet)], [10, 10, 5])
        self.assertEqual((fan_of(program, room, ways, meet[0]), fan_of(program, room, ways, merge[0])), ((10, 10), (5,)))
        counts = (25, 11, 13)
        self.told(program, room, ways, left, counts, 25 * 2 + 25 * 3)
        self.told(program, room, ways, right, counts, 11 * 3 + 11 * 3)
        self.told(program, room, ways, meet, counts, 25 * 3 + 11 * 3 + 13 * 6)
        self.told(program, room, ways, merge, counts, 13 * 6 + 13 * 5)
        # Runs of 5: of 25 five stand, of 26 six, of which 5 and 1 become one.
        self.told(program, room, ways, merge, (60, 20, 25), 25 * 11)
        self.told(program, room, ways, merge, (60, 20, 26), 26 * 11 + 2 * 6 * 6)
        self.told(program, room, ways, meet, (0, 0, 0), 0)

    def test_no_more_runs_than_the_fans(self):
        wide = alone(("read", "sale", ((0, 9),) * 3, 49), ("read", "names", ((0, 9),) * 3, 46), ("keep", 0, 0),
                     ("look", 0, 1, 0, 0), ("first", 3, 5))
        ways = ((3, "met"),)
        meet = ((3, "meet"),)
        room = 112
        self.assertEqual((size_of(wide, room, ways, (3, "left")), size_of(wide, room, ways, (3, "right")),
                          fan_of(wide, room, ways, meet[0])), (7, 9, (7, 9)))
        self.told(wide, room, ways, meet, (49, 46, 0, 40, 0), 49 * 4 + 46 * 3 + 40 * 7)

    def test_a_side_of_more_runs_than_its_fan(self):
        ways = ((2, "met"),)
        meet = ((2, "meet"),)
        program = alone(("read", "sale", ((0, 9),) * 3, 70), ("read", "names", ((0, 9),) * 3, 68), ("look", 0, 1, 0, 0))
        room = 140
        self.assertEqual((size_of(program, room, ways, (2, "left")), size_of(program, room, ways, (2, "right")),
                          fan_of(program, room, ways, meet[0])), (8, 11, (8, 11)))
        # Nine runs of left: the last two, of 8 and 6, become one. Right's seven stand as they are.
        self.told(program, room, ways, meet, (70, 68, 60), 70 * 4 + 2 * 4 * (8 + 6) + 68 * 3 + 60 * 7)
        self.told(program, room, ways, meet, (65, 68, 60), 65 * 4 + 2 * 4 * (8 + 1) + 68 * 3 + 60 * 7)
        self.told(program, room, ways, meet, (64, 68, 60), 64 * 4 + 68 * 3 + 60 * 7)

    def test_a_block(self):
        program = alone(SALE, NAMES, ("look", 0, 1, 0, 0), ("first", 2, 5))
        ways = ((2, "blocked"),)
        one = ((2, "block"), (3, "step"))
        self.assertEqual(size_of(program, 24, ways, one[0]), 2)
        for many, blocks in ((0, 0), (1, 1), (2, 1), (3, 2), (4, 2), (5, 3), (60, 30)):
            self.told(program, 24, ways, one, (many, 20, 0, 0), 2 * many + blocks * 60)
        self.told(program, 24, ways, one, (5, 20, 4, 3), 10 + 3 * 60 + 15)
        self.told(program, 24, ways, one[:1], (5, 20, 4, 3), 10 + 3 * 60 + 20)
        self.told(program, 24, ways, one, (5, 0, 0, 0), 10)
        self.told(alone(SALE, ("look", 0, 0, 0, 0)), 24, ((1, "blocked"),), ((1, "block"),), (7, 7), 14 + 3 * 14 + 28)

    def test_both_and_beside(self):
        program = alone(SALE, NAMES, ("beside", 0, 1), ("both", 0, 0), ("first", 2, 5), ("gather", 3, 1, ()),
                        outputs=(3, 4, 5))
        counts = (7, 7, 7, 14, 5, 2)
        self.told(program, 100, (), ((2, "beside"), (4, "step")), counts, 14 + 21 + 25)
        self.told(program, 100, (), ((2, "beside"),), counts, 14 + 21 + 35)
        # A file that is read twice is counted twice.
        self.told(program, 100, (), ((3, "both"), (5, "step")), counts, 14 + 14 + 28 + 2)
        self.told(program, 100, (), ((3, "both"),), (0, 7, 0, 0, 0, 0), 0)
        self.told(alone(SALE, ("beside", 0, 0)), 100, (), ((1, "beside"),), (7, 7), 28 + 28)

    def test_kept_looks(self):
        program = alone(SALE, NAMES, ("look", 0, 1, 0, 0), ("look", 0, 1, 1, 1), ("look", 0, 0, 0, 0), outputs=(2, 3))
        ways = ((2, "kept"), (3, "kept"))
        one = ((2, "step"), (3, "step"))
        self.told(program, 1000, ways, one, (10, 5, 4, 3, 2), 20 + 15 + 15 + 20 + 15)
        self.told(program, 1000, ways, one[:1], (10, 5, 4, 3, 2), 20 + 15 + 20)
        self.told(program, 1000, ways, one, (0, 5, 0, 0, 0), 15 + 15)
        # A kept look of a node with itself reads it as its stream and as its table.
        self.told(alone(SALE, ("look", 0, 0, 0, 0)), 1000, ((1, "kept"),), ((1, "step"),), (10, 9), 20 + 20 + 36)

    def test_what_writes_nothing(self):
        program = alone(SALE, ("map", 0, (("over", 1, ("at", 0)),)), outputs=(0,))
        self.assertEqual(stored_of(program, (), ((1, "step"),)), ())
        self.told(program, 100, (), ((1, "step"),), (10, 10), 20)


class Mosts(unittest.TestCase):
    def test_mosts(self):
        program = alone(SALE, NAMES, ("both", 0, 0), ("beside", 0, 1), ("first", 2, 7))
        self.assertEqual(mosts_of(program), (60, 20, 120, 20, 7))
        for program in many_programs(40, 71):
            self.assertEqual(mosts_of(program), tuple(most_of(program, k) for k in range(len(program[0]))))

    def test_refused(self):
        for thing in ANYTHING:
            with self.assertRaises(NoProgram):
                mosts_of(thing)


class Many(unittest.TestCase):
    def led(self, seed, many):
        chance = Random(seed)
        for _ in range(many):
            program = busy_program(chance) if chance.random() < 0.7 else some_program(chance)
            room, plan = room_and_plan(chance, program)
            yield chance, program, room, plan

    def some_counts(self, chance, program):
        return tuple(chance.choice((0, 1, most, most - 1, chance.randint(0, most))) if most else 0
                     for most in mosts_of(program))

    def test_as_said(self):
        for chance, program, room, plan in self.led(72, 150):
            ways, passes = plan
            for counts in (mosts_of(program), (0,) * len(program[0]), self.some_counts(chance, program)):
                expected = tuple(said_words(program, room, ways, one, counts) for one in passes)
                self.assertEqual(tuple(words_of(program, room, ways, one, counts) for one in passes), expected)
                self.assertEqual(plan_words(program, room, plan, counts=counts), expected)
            self.assertEqual(plan_words(program, room, plan), plan_words(program, room, plan, counts=mosts_of(program)))
            self.assertEqual(plan_words(program, room, plan, counts=None), plan_words(program, room, plan))

    def test_words_never_fall_as_counts_rise(self):
        for chance, program, room, plan in self.led(73, 80):
            counts = (0,) * len(program[0])
            words = plan_words(program, room, plan, counts=counts)
            while counts != mosts_of(program):
                counts = tuple(min(most, many + chance.choice((0, 1, 1, 7))) for many, most in zip(counts, mosts_of(program)))
                more = plan_words(program, room, plan, counts=counts)
                self.assertTrue(all(one <= other for one, other in zip(words, more)), (program, room, plan, counts))
                words = more
                if chance.random() < 0.3:
                    counts = mosts_of(program)

    def test_what_a_pass_moves(self):
        for chance, program, room, plan in self.led(74, 60):
            tables = busy_tables(chance, program)
            counts = counts_of(program, tables)
            if counts is None:
                continue
            store = begun_store(program, tables)
            for number, words in enumerate(plan_words(program, room, plan, counts=counts)):
                doing = Doing(program, room, plan, number, store)
                while not doing.is_over():
                    doing.turn()
                self.assertEqual(doing.words(), words, (program, room, plan, tables, number))


class Refused(unittest.TestCase):
    PROGRAM = alone(SALE, ("sort", 0, UP))
    HALF = ((1, "half"),)
    CAST, MERGE = ((1, "cast"),), ((1, "merge"),)
    PLAN = (HALF, (CAST, MERGE))
    COUNTS = (10, 10)
    NO_COUNTS = [(), (10,), (10, 10, 10), (61, 10), (10, 61), (-1, 10), (10, -1), (True, 10), (10, None), (10, "10"),
                 [10, 10], (10, (10,)), {0: 10, 1: 10}, (10 ** 59, 10)]

    def refused(self, error, *asked):
        with Unchanged(self, *asked):
            with self.assertRaises(error):
                words_of(*asked)

    def test_no_program(self):
        for thing in ANYTHING:
            self.refused(NoProgram, thing, None, None, None, None)

    def test_no_room(self):
        for thing in NO_WHOLE + [-1, 10 ** 6 + 1, 10 ** 59]:
            self.refused(NoNumber, self.PROGRAM, thing, None, None, None)
            with self.assertRaises(NoNumber):
                plan_words(self.PROGRAM, thing, None, counts=7)

    def test_no_ways(self):
        for thing in ANYTHING + [((1, "kept"),), (self.HALF,), ((True, "half"),)]:
            self.refused(NoWays, self.PROGRAM, 24, thing, None, None)

    def test_no_pass(self):
        for thing in ANYTHING + [(), self.CAST + self.MERGE, (1, "cast"), [(1, "cast")], ((True, "cast"),)]:
            self.refused(NoPass, self.PROGRAM, 24, self.HALF, thing, None)

    def test_a_pass_that_does_not_fit(self):
        # A size of 2 makes 16 runs of 32 records at the most, of 60 there would be more.
        for room in (0, 3, 4, 8, 12, 15):
            self.assertFalse(fits(self.PROGRAM, room, self.HALF, self.CAST))
            self.refused(NoPass, self.PROGRAM, room, self.HALF, self.CAST, None)
            self.refused(NoPass, self.PROGRAM, room, self.HALF, self.MERGE, self.COUNTS)
        self.assertEqual(words_of(self.PROGRAM, 16, self.HALF, self.CAST, self.COUNTS), 40)

    def test_no_counts(self):
        for thing in self.NO_COUNTS + [thing for thing in ANYTHING if thing != (1, 2)]:
            self.refused(NoCounts, self.PROGRAM, 24, self.HALF, self.CAST, thing)
            if thing is not None:
                with self.assertRaises(NoCounts):
                    plan_words(self.PROGRAM, 24, self.PLAN, counts=thing)

    def test_plan_words(self):
        for thing in ANYTHING:
            with self.assertRaises(NoProgram):
                plan_words(thing, None, None, counts=7)
            with self.assertRaises(NoPlan):
                plan_words(self.PROGRAM, 24, thing, counts=7)
        for plan in ((self.HALF, (self.CAST,)), (self.HALF, (self.MERGE, self.CAST)), (((1, "quarter"),), self.PLAN[1][:1])):
            with self.assertRaises(NoPlan):
                plan_words(self.PROGRAM, 24, plan)
        with self.assertRaises(NoPlan):
            plan_words(self.PROGRAM, 15, self.PLAN, counts=7)
        with self.assertRaises(TypeError):
            plan_words(self.PROGRAM, 24, self.PLAN, self.COUNTS)

    def test_by_name_and_as_it_was(self):
        with Unchanged(self, self.PROGRAM, self.PLAN, self.COUNTS):
            self.assertEqual(words_of(counts=self.COUNTS, one=self.CAST, ways=self.HALF, room=24, program=self.PROGRAM), 40)
            self.assertEqual(plan_words(counts=self.COUNTS, plan=self.PLAN, room=24, program=self.PROGRAM), (40, 40))
            self.assertEqual(mosts_of(program=self.PROGRAM), (60, 60))

    def test_reads_alone(self):
        program = alone(SALE, NAMES)
        for room in (0, 1, 10 ** 6):
            self.assertEqual(plan_words(program, room, ((), ())), ())
            self.assertEqual(plan_words(program, room, ((), ()), counts=(60, 0)), ())
        with self.assertRaises(NoCounts):
            plan_words(program, 0, ((), ()), counts=(61, 0))


if __name__ == "__main__":
    unittest.main()
