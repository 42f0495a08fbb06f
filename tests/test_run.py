import unittest

from rowhaul.errors import Early, NoNumber, NoPlan, NoProgram, NoTables, Over
from rowhaul.plans.passes import told_room
from rowhaul.plans.words import plan_words
from rowhaul.programs.plain import counts_of, plain
from rowhaul.running.run import Run, run_from
from tests.plans import lead, words_and_turns
from tests.runs import BESIDE, BLOCKED, BOTH, BY_HAND, KEPT, MET, N0, NARROW, OVER, SALE, SORTED, UP, Led, many_led, numbered
from tests.things import ANYTHING, NO_WHOLE, Unchanged, alone


def run_of(led):
    return Run(led.program, led.room, led.plan, led.tables)


def words_held(state):
    return sum(len(record) for _, records in state[4] for record in records)


class ByHand(unittest.TestCase):
    def test_the_outcome_is_that_of_plain(self):
        for led in BY_HAND:
            run = run_of(led)
            self.assertIsNone(run.finish())
            self.assertEqual(run.outcome(), plain(led.program, led.tables))
            self.assertTrue(run.is_over())

    def test_words_turns_peaks(self):
        run = run_of(SORTED)
        self.assertEqual((run.words(), run.turned(), run.peaks(), run.lost()), ((0, 0), (0, 0), (0, 0), 0))
        run.finish()
        self.assertEqual((run.words(), run.turned(), run.peaks(), run.lost()), ((34, 26), (11, 8), (14, 10), 0))
        run = run_of(KEPT)
        run.finish()
        self.assertEqual((run.words(), run.turned(), run.peaks()), ((44,), (10,), (18,)))
        run = run_of(BLOCKED)
        run.finish()
        self.assertEqual((run.words(), run.turned(), run.peaks()), ((30,), (10,), (8,)))
        run = run_of(BOTH)
        run.finish()
        self.assertEqual((run.words(), run.turned(), run.peaks()), ((28,), (4,), (6,)))
        run = run_of(BESIDE)
        run.finish()
        # The rows of 4 words put together, and of the gather two words each.
        self.assertEqual((run.words(), run.turned(), run.peaks()), ((12 + 12 + 4,), (4,), (4 + 2 + 2,)))
        run = run_of(NARROW)
        run.finish()
        self.assertEqual(run.words()[0], 88)
        self.assertEqual(run.words(), plan_words(*NARROW.asked, counts=(22, 22)))
        self.assertEqual(run.peaks()[1], 4)
        run = run_of(MET)
        run.finish()
        self.assertEqual(run.words(), plan_words(*MET.asked, counts=counts_of(MET.program, MET.tables)))

    def test_turn_by_turn(self):
        run = run_of(SORTED)
        for number in range(19):
            self.assertFalse(run.is_over())
            self.assertEqual(sum(run.turned()), number)
            with self.assertRaises(Early):
                run.outcome()
            self.assertIsNone(run.turn())
        self.assertTrue(run.is_over())
        for _ in range(2):
            with self.assertRaises(Over):
                run.turn()
        self.assertEqual(run.outcome(), ("rows", (((0, 4, 1), (1, 8, 2), (2, 15, 2), (3, 3, 2)),)))
        self.assertEqual((run.turned(), run.words()), ((11, 8), (34, 26)))

    def test_go(self):
        run = run_of(SORTED)
        self.assertEqual(run.go(0), 0)
        self.assertEqual(run.turned(), (0, 0))
        self.assertEqual(run.go(4), 4)
        self.assertEqual(run.turned(), (4, 0))
        self.assertEqual(run.go(8), 8)
        self.assertEqual(run.turned(), (11, 1))
        self.assertEqual(run.go(10 ** 6), 7)
        self.assertEqual((run.is_over(), run.turned()), (True, (11, 8)))
        self.assertEqual((run.go(5), run.go(0)), (0, 0))
        self.assertIsNone(run.finish())
        self.assertEqual(run.turned(), (11, 8))

    def test_the_peak_within_a_turn(self):
        """Of a record that is handed on in its turn alone no state tells, but the peak does."""
        led = Led(alone(SALE, ("map", 0, (1, 2, 3))), 40, ((), (((1, "step"),),)), {"sale": numbered(3)})
        run = run_of(led)
        self.assertEqual((words_held(run.state()), run.peaks()), (0, (0,)))
        run.turn()
        self.assertEqual((words_held(run.state()), run.peaks(), led.told_rooms()), (0, (5,), (5,)))

    def test_no_tables_of_other_reads(self):
        """Reads that aren't needed are not in the store."""
        program = alone(SALE, ("read", "names", ((0, 9),), 5), ("keep", 1, 1), ("keep", 0, 1), outputs=(3,))
        led = Led(program, 40, ((), (((3, "step"),),)), {"sale": numbered(3), "names": ((1,),), "more": None})
        run = run_of(led)
        self.assertEqual(run.state()[5], ((N0, ((3, 0),)),))
        run.finish()
        self.assertEqual(run.outcome(), ("rows", (((3, 0),),)))

    def test_reads_alone(self):
        program = alone(SALE, ("read", "names", ((0, 9),), 5), outputs=(0, 1))
        for rows in ((), ((7,), (2,))):
            run = Run(program, 0, ((), ()), {"sale": numbered(3, 2), "names": rows})
            self.assertTrue(run.is_over())
            self.assertEqual(run.outcome(), ("rows", (((3, 0), (2, 1)), rows)))
            self.assertEqual((run.words(), run.turned(), run.peaks(), run.lost()), ((), (), (), 0))
            self.assertEqual((run.go(7), run.finish(), run.fall()), (0, None, None))
            with self.assertRaises(Over):
                run.turn()

    def test_no_rows(self):
        for led in BY_HAND:
            run = Run(led.program, led.room, led.plan, {name: () for name in led.tables})
            run.finish()
            self.assertEqual(run.outcome(), ("rows", ((),) * len(led.program[1])))
            self.assertEqual(run.words(), (0,) * len(led.plan[1]))

    def test_passes_without_turns_are_done_as_soon_as_come_to(self):
        plan = (((2, "half"),), (((1, "step"),), ((2, "cast"),), ((2, "merge"),), ((3, "step"),)))
        run = Run(SORTED.program, 32, plan, {"sale": ()})
        self.assertEqual(run.state()[:2], (1, ("close", (2, "cast"))))
        run.turn()
        self.assertEqual(run.state()[:2], (3, ("close", (3, "step"))))
        run.turn()
        self.assertEqual(run.state()[:2], (4, ("end",)))
        self.assertEqual(run.turned(), (0, 1, 0, 1))


class Faults(unittest.TestCase):
    """A map that falls, led into one pass, or behind a sort."""

    PROGRAM = alone(SALE, ("sort", 0, UP), ("map", 0, (OVER,)), ("map", 1, (("over", 6, ("at", 1)),)), ("keep", 2, 1),
                    outputs=(3, 4))
    WAYS = ((1, "half"),)
    CAST, MERGE, S2, S3, S4 = (1, "cast"), (1, "merge"), (2, "step"), (3, "step"), (4, "step")

    def done(self, passes, rows):
        led = Led(self.PROGRAM, 100, (self.WAYS, passes), {"sale": rows})
        run = run_of(led)
        run.finish()
        self.assertEqual(run.outcome(), plain(self.PROGRAM, led.tables))
        return run

    def test_the_first_one(self):
        run = self.done(((self.CAST, self.S2, self.S4), (self.MERGE, self.S3)), ((3, 1), (0, 2), (0, 0), (1, 1)))
        self.assertEqual(run.outcome(), ("fault", (2, 1, "nought")))

    def test_a_greater_node_first(self):
        rows = ((3, 1), (0, 2), (5, 0))
        run = self.done(((self.CAST,), (self.MERGE, self.S3), (self.S2, self.S4)), rows)
        self.assertEqual(run.outcome(), ("fault", (2, 1, "nought")))
        self.assertEqual(run.state()[6], ((2, 1, "nought"), ()))

    def test_a_pass_is_left_out(self):
        run = self.done(((self.CAST, self.S2), (self.MERGE, self.S3), (self.S4,)), ((3, 1), (0, 2), (5, 0)))
        # The sort is still done, the maps behind the fault are not; node 4's pass has no turn at all.
        self.assertEqual(run.turned(), (4, 3, 0))
        self.assertEqual((run.words()[2], run.peaks()[2]), (0, 0))
        self.assertEqual(run.state()[0], 3)

    def test_words_of_a_fault_are_no_more_than_at_the_mosts(self):
        run = self.done(((self.CAST, self.S2, self.S4), (self.MERGE, self.S3)), ((0, 2),) * 60)
        self.assertTrue(all(one <= most for one, most in zip(run.words(), plan_words(*self.asked()))))

    def asked(self):
        return self.PROGRAM, 100, (self.WAYS, ((self.CAST, self.S2, self.S4), (self.MERGE, self.S3)))

    def test_uneven(self):
        for names, fault in ((numbered(1), (2, 1, "uneven")), (numbered(1, 2, 3), (2, 2, "uneven")), ((), (2, 0, "uneven"))):
            tables = {"sale": numbered(3, 4), "names": names}
            run = Run(*BESIDE.asked, tables)
            # Its pass has no turn, and is done as soon as it is come to.
            self.assertTrue(run.is_over())
            self.assertEqual(run.outcome(), ("fault", fault))
            self.assertEqual(run.outcome(), plain(BESIDE.program, tables))
            self.assertEqual(run.state()[6], (fault, ()))

    def test_kept_tables_of_what_stops_are_not_read(self):
        """Behind a fault a pass is done as one of its other parts alone."""
        program = alone(SALE, ("map", 0, (OVER,)), ("look", 0, 0, 0, 0), ("keep", 0, 1), ("look", 3, 3, 0, 0),
                        outputs=(1, 2, 3, 4))
        ways = ((2, "kept"), (4, "kept"))
        plan = (ways, (((3, "step"),), ((1, "step"),), ((2, "step"), ), ((4, "step"),)))
        run = Run(program, 1000, plan, {"sale": numbered(2, 0)})
        run.finish()
        self.assertEqual((run.outcome(), run.turned()), (("fault", (1, 1, "nought")), (2, 2, 0, 0)))
        # Node 3's fault stops node 4 alone: its table is not read, that of node 2 is.
        program = alone(SALE, ("map", 0, (1,)), ("look", 0, 0, 0, 0), ("map", 0, (OVER,)), ("look", 0, 0, 0, 0),
                        outputs=(1, 2, 3, 4))
        plan = (((2, "kept"), (4, "kept")), (((3, "step"),), ((1, "step"), (2, "step"), (4, "step"))))
        run = Run(program, 1000, plan, {"sale": numbered(2, 0)})
        run.finish()
        self.assertEqual((run.outcome(), run.turned()), (("fault", (3, 1, "nought")), (2, 4)))
        self.assertEqual(run.words()[1], 4 + 4 + 2 + 8)


class Many(unittest.TestCase):
    def test_many(self):
        outcomes, narrow = set(), 0
        for chance, led in many_led(61, 150):
            run = run_of(led)
            asked = (led.asked, led.tables)
            held = [0] * len(led.plan[1])
            turns = 0
            while not run.is_over():
                if chance.random() < 0.2:
                    state = run.state()
                    held[state[0]] = max(held[state[0]], words_held(state))
                run.turn()
                turns += 1
            outcome = plain(led.program, led.tables)
            self.assertEqual(run.outcome(), outcome, asked)
            self.assertEqual(sum(run.turned()), turns)
            self.assertTrue(all(few <= peak <= told for few, peak, told in zip(held, run.peaks(), led.told_rooms())), asked)
            self.assertTrue(all(told <= led.room for told in led.told_rooms()), asked)
            self.assertTrue(all(one <= most for one, most in zip(run.words(), plan_words(*led.asked))), asked)
            if outcome[0] == "rows":
                self.assertEqual(run.words(), plan_words(*led.asked, counts=counts_of(led.program, led.tables)), asked)
                turned = tuple(words_and_turns(led.program, led.room, led.plan[0], one, led.tables)[1] for one in led.plan[1])
                self.assertEqual(run.turned(), turned, asked)
            self.assertEqual(run.state()[5], tuple(sorted(
                (name, rows) for name, rows in lead(led.program, led.room, led.plan, led.tables)[1].files()
                if name[0] != "node" or led.program[0][name[1]][0] != "read" or name in dict(run.state()[5]))), asked)
            outcomes.add(outcome[0] if outcome[0] == "rows" else outcome[1][2])
            narrow += led.room < 40
        self.assertEqual(outcomes, {"rows", "nought", "great", "uneven"})
        self.assertGreater(narrow, 30)

    def test_go_in_pieces(self):
        for chance, led in many_led(62, 40):
            whole, pieces = run_of(led), run_of(led)
            whole.finish()
            done = 0
            while not pieces.is_over():
                turns = chance.choice((0, 1, 2, 7, 50))
                many = pieces.go(turns)
                self.assertTrue(many == turns or pieces.is_over())
                done += many
            self.assertEqual(done, sum(whole.turned()))
            self.assertEqual((pieces.state(), pieces.words(), pieces.turned(), pieces.peaks()),
                             (whole.state(), whole.words(), whole.turned(), whole.peaks()))

    def test_two_runs_do_not_meet(self):
        for _, led in many_led(63, 15):
            one, other = run_of(led), run_of(led)
            one.finish()
            self.assertEqual(sum(other.turned()), 0)
            other.finish()
            self.assertEqual(one.state(), other.state())


class Refused(unittest.TestCase):
    PROGRAM, ROOM, PLAN = SORTED.asked
    TABLES = SORTED.tables

    def test_in_their_order(self):
        for thing in ANYTHING:
            with self.assertRaises(NoProgram):
                Run(thing, None, None, None)
            with self.assertRaises(NoPlan):
                Run(self.PROGRAM, self.ROOM, thing, None)
            with self.assertRaises(NoTables):
                Run(self.PROGRAM, self.ROOM, self.PLAN, thing)
        for thing in NO_WHOLE + [-1, 10 ** 6 + 1, 10 ** 59]:
            with self.assertRaises(NoNumber):
                Run(self.PROGRAM, thing, None, None)
        with self.assertRaises(NoPlan):
            Run(self.PROGRAM, 15, self.PLAN, None)

    def test_tables(self):
        for tables in ({}, {"sale": [(1, 2)]}, {"sale": ((1,),)}, {"sale": ((10, 0),)}, {"sale": ((1, True),)},
                       {"sale": ((1, 2),) * 61}, {"Sale": ()}, {"sale": None}):
            with self.assertRaises(NoTables):
                Run(self.PROGRAM, self.ROOM, self.PLAN, tables)

    def test_turns(self):
        run = run_of(SORTED)
        for thing in NO_WHOLE + [-1, 10 ** 6 + 1, 10 ** 59]:
            with self.assertRaises(NoNumber):
                run.go(thing)
        self.assertEqual(run.turned(), (0, 0))
        run.finish()
        with self.assertRaises(NoNumber):
            run.go(-1)

    def test_by_name_and_as_it_was(self):
        with Unchanged(self, self.PROGRAM, self.PLAN, self.TABLES):
            run = Run(tables=self.TABLES, plan=self.PLAN, room=self.ROOM, program=self.PROGRAM)
            self.assertEqual(run.go(turns=3), 3)
            again = run_from(state=run.state(), plan=self.PLAN, room=self.ROOM, program=self.PROGRAM)
            run.finish()
            again.finish()
        self.assertEqual(again.state(), run.state())

    def test_what_is_done_to_the_tables_afterwards(self):
        tables = dict(self.TABLES)
        run = Run(self.PROGRAM, self.ROOM, self.PLAN, tables)
        tables.clear()
        run.finish()
        self.assertEqual(run.outcome(), plain(self.PROGRAM, self.TABLES))

    def test_told_room(self):
        self.assertEqual(told_room(self.PROGRAM, self.ROOM, self.PLAN[0], self.PLAN[1][0]), SORTED.told_rooms()[0])


if __name__ == "__main__":
    unittest.main()
