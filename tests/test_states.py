import unittest
from random import Random

from rowhaul.errors import NoNumber, NoPlan, NoProgram, NoState
from rowhaul.machine.casts import least_head
from rowhaul.plans.passes import told_room
from rowhaul.programs.plain import plain
from rowhaul.running.run import Run, run_from
from rowhaul.running.states import is_state
from tests.runs import (BESIDE, BLOCKED, BOTH, BOTH_AHEAD, BY_HAND, KEPT, MET, N0, N1, NAMES, NARROW, OVER, SALE, SORTED, UP, Led,
                        many_led, numbered)
from tests.test_run import run_of, words_held
from tests.things import ANYTHING, NO_WHOLE, TOP, Unchanged, alone

DONE, PHASE, READS, COUNTS, HELD, STORE, LOWEST = range(7)


def states_of(led):
    """The states ahead of each turn, and behind all."""
    run = run_of(led)
    told = [run.state()]
    while not run.is_over():
        run.turn()
        told.append(run.state())
    return told


def bent(state, at, thing):
    """The state with one thing otherwise."""
    return state[:at] + (thing,) + state[at + 1:]


def with_held(state, holder, records):
    """The state in which a holder holds others, or nothing."""
    held = {**dict(state[HELD]), holder: records}
    return bent(state, HELD, tuple(sorted((one, held[one]) for one in held if held[one])))


def with_file(state, name, rows):
    """The state in which a file has other rows, or there is none where these are None."""
    files = {**dict(state[STORE]), name: rows}
    return bent(state, STORE, tuple(sorted((one, files[one]) for one in files if files[one] is not None)))


def with_reads(state, *manys):
    """The state in which so many records are read of the files."""
    return bent(state, READS, tuple(entry[:2] + (many,) for entry, many in zip(state[READS], manys)))


class Told(unittest.TestCase):
    def test_by_hand(self):
        states = states_of(SORTED)
        rows = SORTED.tables["sale"]
        k1, cast, g3 = (1, "step"), (2, "cast"), (3, "step")
        self.assertEqual(states[0], (0, ("drive",), ((0, N0, 0),), ((k1, 0), (cast, 0)), (), ((N0, rows),), ((), ())))
        self.assertEqual(states[3], (0, ("drive",), ((0, N0, 3),), ((k1, 3), (cast, 2)),
                                     ((("cast", cast), ((3, 0), (1, 2))),), ((N0, rows),), ((), ())))
        files = ((N0, rows), (("run", cast, 0), ((0, 4), (1, 2), (1, 6), (2, 7), (3, 0), (3, 3))),
                 (("run", cast, 1), ((2, 8),)))
        # The last turn of a pass comes to the next one at once.
        self.assertEqual(states[10][:2], (0, ("close", cast)))
        self.assertEqual(states[11], (1, ("drive",), tuple((0, name, 0) for name, _ in files[1:]), ((g3, 0),), (), files,
                                      ((), ())))
        self.assertEqual(states[19], (2, ("end",), (), (), (), tuple(sorted(files + (
            (("node", 3), ((0, 4, 1), (1, 8, 2), (2, 15, 2), (3, 3, 2))),))), ((), ())))

    def test_phases(self):
        told = [{state[PHASE][0] for state in states_of(led)} for led in (NARROW, KEPT, BLOCKED, MET, BOTH, BESIDE)]
        self.assertEqual(told, [{"ahead", "drive", "close", "end"}, {"kept", "drive", "end"}, {"fill", "hold", "hand", "end"},
                                {"ahead", "drive", "close", "end"}, {"drive", "end"}, {"drive", "close", "end"}])

    def test_a_fault_of_this_pass_and_of_those_ahead(self):
        program = alone(SALE, ("map", 0, (OVER,)), ("carry", 0, ("at", 1), 7), ("keep", 1, 1), outputs=(1, 2, 3))
        plan = ((), (((1, "step"), (2, "step"), (3, "step")), ))
        states = states_of(Led(program, 100, plan, {"sale": numbered(2, 0, 3)}))
        fault = (1, 1, "nought")
        self.assertEqual([state[LOWEST] for state in states], [((), ()), ((), ()), ((), fault), (fault, ())])
        self.assertEqual(states[1][COUNTS:STORE], ((((1, "step"), 1), ((2, "step"), 1), ((3, "step"), 1)),
                                                   ((("step", (2, "step")), ((0,),)),)))
        # All parts have stopped, but the driver goes to its end.
        self.assertEqual(states[2][PHASE:STORE], (("drive",), ((0, N0, 2),), (), ()))

    def test_each_told_state_is_one(self):
        for led in BY_HAND:
            for state in states_of(led):
                with Unchanged(self, state, led.asked):
                    self.assertTrue(is_state(*led.asked, state))

    def test_both_sides_ahead(self):
        states = states_of(BOTH_AHEAD)
        left, right = (2, "left"), (2, "right")
        self.assertEqual({state[PHASE][:2] for state in states if state[DONE] == 2},
                         {("ahead", left), ("ahead", right), ("drive",), ("close", (2, "meet"))})
        for at, state in enumerate(states):
            if state[DONE] == 2 and state[PHASE][0] == "ahead":
                self.assertTrue(is_state(*BOTH_AHEAD.asked, state))
                run = run_from(*BOTH_AHEAD.asked, state)
                self.assertEqual(run.state(), state)
                run.turn()
                self.assertEqual(run.state(), states[at + 1])
                if state[PHASE][1] == right:
                    # All that left's pairs made is there.
                    made = [name for name, _ in state[STORE] if name[:2] == ("ahead", left)]
                    self.assertGreater(len(made), 0)
                    self.assertFalse(is_state(*BOTH_AHEAD.asked, with_file(state, made[-1], None)))
                else:
                    more = with_file(state, ("ahead", right, 0), ((1, 1, 1, 1),))
                    self.assertFalse(is_state(*BOTH_AHEAD.asked, more))
        self.assertEqual(run_from(*BOTH_AHEAD.asked, states[-1]).outcome(), plain(BOTH_AHEAD.program, BOTH_AHEAD.tables))

    def test_one_side_without_rows(self):
        for sale, names in (((), numbered(3, 4)), (numbered(3, 4), ()), ((), ()), (numbered(3), numbered(4))):
            led = Led(MET.program, MET.room, MET.plan, {"sale": sale, "names": names})
            for state in states_of(led):
                self.assertTrue(is_state(*led.asked, state))
                self.assertEqual(run_from(*led.asked, state).state(), state)

    def test_files_of_passes_ahead_of_a_fault(self):
        """What was made of greater nodes ahead of a fault, and in the pass that met it, is there still."""
        program = alone(SALE, ("map", 0, (OVER,)), ("keep", 0, 1), ("keep", 0, 1), outputs=(1, 2, 3))
        plan = ((), (((3, "step"),), ((1, "step"), (2, "step"))))
        led = Led(program, 100, plan, {"sale": numbered(2, 4, 0, 3)})
        end = states_of(led)[-1]
        self.assertEqual((end[LOWEST], [name for name, _ in end[STORE]]),
                         (((1, 2, "nought"), ()), [N0, N1, ("node", 2), ("node", 3)]))
        for state in states_of(led):
            self.assertTrue(is_state(*led.asked, state))
        # Behind a third pass, too, whose number is greater.
        plan = ((), (((3, "step"),), ((1, "step"),), ((2, "step"),)))
        led = Led(program, 100, plan, {"sale": numbered(2, 4, 0, 3)})
        for state in states_of(led):
            self.assertTrue(is_state(*led.asked, state))

    def test_of_many(self):
        own, ahead = 0, 0
        for chance, led in many_led(81, 60):
            run = run_of(led)
            while not run.is_over():
                run.go(chance.choice((1, 1, 5, 40)))
                state = run.state()
                self.assertTrue(is_state(*led.asked, state), (led.asked, state))
                own += state[LOWEST][1] != ()
                ahead += state[LOWEST][0] != () and not run.is_over()
        self.assertGreater(min(own, ahead), 10)


class GoesOn(unittest.TestCase):
    def test_from_each_state_alike(self):
        for led in BY_HAND:
            states = states_of(led)
            whole = run_of(led)
            words = []
            turns = []
            while True:
                words.append(whole.words())
                turns.append(whole.turned())
                if whole.is_over():
                    break
                whole.turn()
            for at, state in enumerate(states):
                run = run_from(*led.asked, state)
                self.assertEqual(run.state(), state)
                self.assertEqual((sum(run.words()), sum(run.turned()), run.lost()), (0, 0, 0))
                peaks = [0] * len(led.plan[1])
                if not run.is_over():
                    peaks[state[DONE]] = words_held(state)
                self.assertEqual(run.peaks(), tuple(peaks))
                for number in range(at, len(states) - 1):
                    self.assertEqual(run.state(), states[number])
                    run.turn()
                self.assertEqual((run.state(), run.is_over()), (states[-1], True))
                self.assertEqual(run.outcome(), plain(led.program, led.tables))
                self.assertEqual(run.words(), tuple(a - b for a, b in zip(whole.words(), words[at])))
                self.assertEqual(run.turned(), tuple(a - b for a, b in zip(whole.turned(), turns[at])))
                self.assertTrue(all(one <= most for one, most in zip(run.peaks(), whole.peaks())))

    def test_again_and_again(self):
        """A run that is made anew out of what is told of it, twice at each turn, comes to the same."""
        for led in BY_HAND:
            run = run_of(led)
            while not run.is_over():
                run = run_from(*led.asked, run_from(*led.asked, run.state()).state())
                run.turn()
            self.assertEqual(run.outcome(), plain(led.program, led.tables))

    def test_two_of_one_state(self):
        for led in (SORTED, NARROW, MET):
            state = states_of(led)[7]
            one, other = run_from(*led.asked, state), run_from(*led.asked, state)
            one.finish()
            self.assertEqual(other.state(), state)
            other.finish()
            self.assertEqual((one.state(), one.words(), one.turned(), one.peaks()),
                             (other.state(), other.words(), other.turned(), other.peaks()))

    def test_many(self):
        for chance, led in many_led(82, 60):
            run, whole = run_of(led), run_of(led)
            words, turns = [0] * len(led.plan[1]), [0] * len(led.plan[1])
            while not run.is_over():
                run.go(chance.choice((1, 2, 9, 60)))
                if chance.random() < 0.6:
                    words = [one + more for one, more in zip(words, run.words())]
                    turns = [one + more for one, more in zip(turns, run.turned())]
                    run = run_from(*led.asked, run.state())
            whole.finish()
            self.assertEqual((run.state(), run.outcome()), (whole.state(), plain(led.program, led.tables)), led.asked)
            self.assertEqual(tuple(one + more for one, more in zip(words, run.words())), whole.words())
            self.assertEqual(tuple(one + more for one, more in zip(turns, run.turned())), whole.turned())

    def test_with_other_records_not_yet_read(self):
        state = states_of(SORTED)[5]
        rows = SORTED.tables["sale"]
        other = rows[:5] + ((9, 9), (8, 50), (0, -70), (TOP, 1), (-5, 0))
        # Of the records read nothing hangs on any more, and words may be out of the told ranges.
        changed = with_file(state, N0, ((7, 7),) * 5 + other[5:])
        self.assertTrue(is_state(*SORTED.asked, changed))
        run = run_from(*SORTED.asked, changed)
        self.assertEqual(run.state(), changed)
        run.finish()
        kept = sorted([record for record in other if record[0] < 9], key=lambda record: record[0])
        told = {}
        for word, number in kept:
            told[word] = (told.get(word, (0, 0))[0] + number, told.get(word, (0, 0))[1] + 1)
        self.assertEqual(run.outcome(), ("rows", (tuple((word, *told[word]) for word in sorted(told)),)))

    def test_with_other_records_held(self):
        cast, g3 = (2, "cast"), (3, "step")
        state = states_of(SORTED)[3]
        run = run_from(*SORTED.asked, with_held(state, ("cast", cast), ((8, 8), (7, 77))))
        run.finish()
        self.assertEqual(run.outcome(), ("rows", (((0, 4, 1), (1, 6, 1), (2, 15, 2), (3, 3, 1), (7, 77, 1), (8, 8, 1)),)))
        state = states_of(SORTED)[16]
        self.assertEqual(dict(state[HELD])[("step", g3)], ((2, 15, 2),))
        run = run_from(*SORTED.asked, with_held(state, ("step", g3), ((-7, 100, 3),)))
        run.finish()
        self.assertEqual(run.outcome(), ("rows", (((0, 4, 1), (1, 8, 2), (-7, 100, 3), (3, 3, 2)),)))
        # A sum that is held falls behind, one that is none begins anew.
        run = run_from(*SORTED.asked, with_held(state, ("step", g3), ((3, TOP, 3),)))
        run.finish()
        self.assertEqual(run.outcome(), ("fault", (3, 6, "great")))
        run = run_from(*SORTED.asked, with_held(state, ("step", g3), ()))
        run.finish()
        self.assertEqual(run.outcome(), ("rows", (((0, 4, 1), (1, 8, 2), (3, 3, 2)),)))

    def test_with_another_table_and_another_block(self):
        state = [one for one in states_of(KEPT) if one[PHASE] == ("drive",)][1]
        holder = ("kept", (2, "step"))
        run = run_from(*KEPT.asked, with_held(state, holder, ((4, 4), (4, 5), (8, 8))))
        run.finish()
        self.assertEqual(run.outcome()[1][0], ((3, 0, 3, 1), (4, 1, 4, 4)))
        block = ("block", (2, "block"))
        state = [one for one in states_of(BLOCKED) if one[PHASE] == ("hand",)][0]
        self.assertEqual(dict(state[HELD])[block], ((3, 0, 3, 1), (4, 1)))
        for records, rows in ((((3, 0, 9, 9), (4, 1, 4, 8)), ((3, 0, 9, 9), (4, 1, 4, 8), (5, 2, 5, 0))),
                              (((4, 1), (3, 0)), ((5, 2, 5, 0),)), (((1, 2, 3, 4),), ((1, 2, 3, 4), (5, 2, 5, 0)))):
            run = run_from(*BLOCKED.asked, with_held(state, block, records))
            run.finish()
            self.assertEqual(run.outcome()[1][0], rows)

    def test_with_another_one_that_was(self):
        holder = ("step", (3, "step"))
        state = states_of(BOTH)[2]
        run = run_from(*BOTH.asked, with_held(state, holder, ((7,),)))
        run.finish()
        self.assertEqual(run.outcome()[1][1], ((3, 0, 50), (4, 1, 51), (8, 0, 7), (9, 1, 8)))


class NoStates(unittest.TestCase):
    def none(self, led, *states):
        for state in states:
            with Unchanged(self, state):
                self.assertFalse(is_state(*led.asked, state), state)
            with self.assertRaises(NoState):
                run_from(*led.asked, state)

    def test_of_anything(self):
        for led in (SORTED, NARROW):
            self.none(led, *ANYTHING)
            state = states_of(led)[5]
            self.none(led, list(state), state[:6], state + ((),), (state,), dict(enumerate(state)))
            for at in range(7):
                for thing in ANYTHING:
                    if not (thing == state[at] and repr(thing) == repr(state[at])) and (at, thing) != (HELD, ()):
                        self.none(led, bent(state, at, thing))

    def test_truths_are_no_numbers(self):
        state = states_of(SORTED)[1]
        self.assertEqual(state[READS], ((0, N0, 1),))
        step, cast = (1, "step"), (2, "cast")
        self.none(SORTED, bent(state, DONE, False), bent(state, READS, ((0, N0, True),)), bent(state, READS, ((False, N0, 1),)),
                  bent(state, READS, ((0, ("node", False), 1),)), bent(state, COUNTS, ((step, True), (cast, 1))),
                  bent(state, COUNTS, (((True, "step"), 1), (cast, 1))), with_held(state, ("cast", cast), ((3, False),)),
                  with_file(state, N0, ((True, 0),) + SORTED.tables["sale"][1:]))

    def test_done(self):
        for led in BY_HAND:
            for state in states_of(led)[::3]:
                for done in (state[DONE] - 1, state[DONE] + 1, 7, -1, 10 ** 59, None, True, str(state[DONE])):
                    self.none(led, bent(state, DONE, done))

    def test_phase(self):
        phases = [("end",), ("fill",), ("hold",), ("hand",), ("drive",), (), ("Drive",), ("drive", 0), ["drive"], "drive",
                  ("close", (9, "step")), ("close", (2, "merge")), ("kept", (2, "step")), ("ahead", (2, "cast"), 0),
                  ("ahead", (1, "cast"), 9), ("ahead", (1, "cast"), -1), ("kept",), ("close",), ("kept", (3, "step"), 0),
                  ("ahead", (1, "cast"), True), ("file",), ("both",), ("merge",), ("close", [2, "cast"])]
        for led in BY_HAND:
            for state in states_of(led):
                for phase in phases:
                    if phase == state[PHASE]:
                        continue
                    self.none(led, bent(state, PHASE, phase))

    def test_numbers_of_pairs(self):
        cast = (1, "cast")
        for state in states_of(NARROW):
            if state[PHASE][0] == "ahead":
                for pairs in (None, "0", [0], (0,), 10 ** 59, -1, state[PHASE][2] == 1):
                    self.none(NARROW, bent(state, PHASE, ("ahead", cast, pairs)))

    def test_behind_all_nothing_is_at_hand(self):
        for led in BY_HAND:
            state = states_of(led)[-1]
            last = states_of(led)[-2]
            self.none(led, bent(state, READS, ((0, N0, 0),)), bent(state, COUNTS, (((1, "step"), 0),)),
                      bent(state, HELD, ((("step", (1, "step")), ((1,),)),)), bent(state, PHASE, last[PHASE]))

    def test_a_merge_and_a_meet_of_no_runs(self):
        for led, done in ((SORTED, 1), (MET, 2)):
            state = [one for one in states_of(led) if one[DONE] == done][0]
            for name, _ in state[STORE]:
                if name[0] == "run":
                    state = with_file(state, name, None)
            self.none(led, bent(state, READS, ()), state)

    def test_both_and_beside(self):
        first, then = states_of(BOTH)[0], states_of(BOTH)[2]
        self.assertTrue(is_state(*BOTH.asked, with_reads(first, 2, 0)))
        self.assertTrue(is_state(*BOTH.asked, with_reads(then, 1, 0)))
        # None of j is read as long as i has more.
        self.none(BOTH, with_reads(first, 1, 1), with_reads(first, 0, 1), with_reads(then, 2, 2), with_reads(first, 0, 2))
        state = states_of(BESIDE)[1]
        self.assertTrue(is_state(*BESIDE.asked, with_reads(state, 2, 2)))
        self.none(BESIDE, with_reads(state, 3, 3), with_reads(state, 2, 1), with_reads(state, 1, 2))

    def test_what_a_block_is_joined_to(self):
        block = ("block", (2, "block"))
        hold, more = [one for one in states_of(BLOCKED) if one[PHASE] == ("hold",)][:2]
        self.assertEqual([one[READS][1][2] for one in (hold, more)], [0, 1])
        joined = ((3, 0, 9, 9), (4, 1))
        self.none(BLOCKED, with_held(hold, block, joined))
        self.assertTrue(is_state(*BLOCKED.asked, with_held(more, block, joined)))
        # Of a table without rows nothing is ever joined.
        hand = [one for one in states_of(BLOCKED) if one[PHASE] == ("hand",)][0]
        for rows in ((), None):
            empty = with_reads(with_file(hand, N1, ()), 2, 0)
            self.none(BLOCKED, with_held(empty, block, joined))
            self.assertTrue(is_state(*BLOCKED.asked, with_held(empty, block, ((3, 0), (4, 1)))))
        one = with_reads(with_file(hand, N1, ((5, 5),)), 2, 1)
        self.assertTrue(is_state(*BLOCKED.asked, with_held(one, block, joined)))

    def test_a_block_that_is_not_full(self):
        """As long as i has more it is filled up ahead."""
        block = ("block", (2, "block"))
        first = [one for one in states_of(BLOCKED) if one[PHASE] == ("hold",)][0]
        last = [one for one in states_of(BLOCKED) if one[PHASE] == ("hold",)][-1]
        self.none(BLOCKED, with_held(first, block, ((3, 0),)))
        self.assertTrue(is_state(*BLOCKED.asked, with_held(last, block, ((3, 0),))))

    def test_a_fault_of_a_pass_behind(self):
        led = Lowest.LED
        run = run_of(led)
        while run.state()[DONE] < 1:
            run.turn()
        state = run.state()
        for k, expected in ((1, False), (2, False), (3, False), (4, False)):
            fault = (k, 0, "great")
            self.assertEqual(is_state(*led.asked, bent(state, LOWEST, ((), fault))), expected)
            self.assertEqual(is_state(*led.asked, bent(bent(state, LOWEST, ((), fault)), COUNTS, ())), k == 2)

    def test_what_is_found_was_taken(self):
        led = Led(MET.program, MET.room, MET.plan, {"sale": numbered(1, 2, 6), "names": numbered(5, 7)})
        found = ("found", (2, "meet"))
        states = [one for one in states_of(led) if one[DONE] == 2 and one[PHASE] == ("drive",)]
        self.assertEqual([found in dict(one[HELD]) for one in states], [False, False, False, True, True])
        for state in states[:3]:
            self.none(led, with_held(state, found, ((5, 0),)))
        for state in states[3:]:
            self.assertTrue(is_state(*led.asked, with_held(state, found, ((5, 0),))))

    def test_a_pass_that_is_left_out(self):
        program = alone(SALE, ("map", 0, (OVER,)), ("keep", 0, 1), outputs=(1, 2))
        led = Led(program, 100, ((), (((1, "step"),), ((2, "step"),))), {"sale": numbered(2, 0)})
        run = run_of(led)
        run.turn()
        run.turn()
        fault = ((1, 1, "nought"), ())
        self.assertEqual(run.state(), (2, ("end",), (), (), (), ((N0, numbered(2, 0)), (("node", 1), ((3,),))), fault))
        other = run_of(Led(program, 100, led.plan, {"sale": numbered(2, 2)}))
        other.go(2)
        state = other.state()
        self.assertEqual(state[:4], (1, ("drive",), ((0, N0, 0),), (((2, "step"), 0),)))
        self.none(led, bent(state, LOWEST, fault), bent(bent(state, LOWEST, fault), COUNTS, ()))

    def test_no_further_turn_in_the_phase(self):
        state = states_of(SORTED)[9]
        self.none(SORTED, with_reads(state, 10))
        kept = states_of(KEPT)[2]
        self.assertEqual(kept[PHASE], ("kept", (2, "step")))
        self.none(KEPT, with_held(with_reads(kept, 3), ("kept", (2, "step")), KEPT.tables["names"]))
        fill, hold, hand = [[one for one in states_of(BLOCKED) if one[PHASE] == (word,)][0] for word in ("fill", "hold", "hand")]
        self.none(BLOCKED, with_reads(fill, 3, 0), with_reads(hold, 2, 2), with_held(hand, ("block", (2, "block")), ()),
                  with_held(hold, ("block", (2, "block")), ()))

    def test_reads(self):
        for led in BY_HAND:
            for state in states_of(led):
                for at, (side, name, many) in enumerate(state[READS]):
                    ahead, behind = state[READS][:at], state[READS][at + 1:]
                    rows = dict(state[STORE]).get(name, ())
                    for entry in ((side, name, len(rows) + 1), (side, name, -1), (1 - side, name, many),
                                  (side, ("node", 9), many), (side, name), (side, name, many, 0), (side, name, None),
                                  [side, name, many], (2, name, many), (side, name, 10 ** 59)):
                        self.none(led, bent(state, READS, ahead + (entry,) + behind))
                    self.none(led, bent(state, READS, ahead + behind),
                              bent(state, READS, ahead + state[READS][at:at + 1] * 2 + behind))
                more = state[READS] + ((1, ("run", (8, "cast"), 3), 0),)
                self.none(led, bent(state, READS, more))
                if len(state[READS]) > 1:
                    self.none(led, bent(state, READS, state[READS][::-1]))

    def test_places_within_files(self):
        state = states_of(SORTED)[5]
        for many in range(10):
            self.assertTrue(is_state(*SORTED.asked, with_reads(state, many)))
        self.none(SORTED, with_reads(state, 11), with_reads(state, 10), with_reads(state, -1))
        # A file that is shorter than it was read.
        rows = SORTED.tables["sale"]
        self.assertTrue(is_state(*SORTED.asked, with_file(state, N0, rows[:6])))
        self.none(SORTED, with_file(state, N0, rows[:5]), with_file(state, N0, rows[:4]), with_file(state, N0, ()))

    def test_counts(self):
        mosts = {SORTED: (60, 60), NARROW: (60,), BOTH: (80,), BESIDE: (20,)}
        for led, most in mosts.items():
            for state in states_of(led)[:4]:
                for at, (part, many) in enumerate(state[COUNTS]):
                    ahead, behind = state[COUNTS][:at], state[COUNTS][at + 1:]
                    for other in (0, most[at], 1):
                        self.assertTrue(is_state(*led.asked, bent(state, COUNTS, ahead + ((part, other),) + behind)))
                    for entry in ((part, most[at] + 1), (part, -1), (part, None), (part, "1"), ((9, "step"), many),
                                  ((part[0], "merge"), many), (part,), [part, many], (list(part), many), (part, many, 0),
                                  (part, 10 ** 59)):
                        self.none(led, bent(state, COUNTS, ahead + (entry,) + behind))
                    self.none(led, bent(state, COUNTS, ahead + behind))
                self.none(led, bent(state, COUNTS, state[COUNTS] + (((9, "step"), 0),)),
                          bent(state, COUNTS, state[COUNTS] * 2))
                if len(state[COUNTS]) > 1:
                    self.none(led, bent(state, COUNTS, state[COUNTS][::-1]))

    def test_counts_of_a_meet(self):
        """As many as the look may have at the most."""
        state = [one for one in states_of(MET) if one[DONE] == 2][4]
        meet = (2, "meet")
        self.assertEqual([part for part, _ in state[COUNTS]], [meet])
        self.assertTrue(is_state(*MET.asked, bent(state, COUNTS, ((meet, 60),))))
        self.none(MET, bent(state, COUNTS, ((meet, 61),)))

    def test_holders(self):
        for led in BY_HAND:
            for state in states_of(led):
                there = dict(state[HELD])
                for holder in (("way", (1, "step")), ("way", (0, "file")), ("found", (2, "meet")), ("kept", (3, "cast")),
                               ("block", (2, "block")), ("heads", (2, "meet")), ("cast", (9, "cast")), ("step", (0, "step")),
                               ("cast", (1, "step")), ("none", (1, "step"))):
                    # These two may hold such a record: they are looked at elsewhere.
                    if holder not in there and (led, holder[0]) not in ((BLOCKED, "block"), (MET, "found")):
                        self.none(led, with_held(state, holder, ((1, 2),)))
                for holder in ((("step",), (1, "step")), ("cast", [1, "cast"]), ("cast", 1), ("cast", None), "cast", ("cast",),
                               ("cast", (True, "cast")), ("cast", (1,)), ("cast", (1, ["cast"])), ("cast", (1, "cast"), 0)):
                    self.none(led, bent(state, HELD, state[HELD] + ((holder, ((1, 2),)),)))
                for holder, records in state[HELD]:
                    if records[0] == ():
                        continue
                    for more in (records + ((),), (records[0] + (1,),) + records[1:], (records[0][:-1],) + records[1:],
                                 [*records], None, (list(records[0]),) + records[1:], ((None,),), ((10 ** 10,),), (records,),
                                 (records[0][:-1] + (TOP + 1,),) + records[1:], ((True,) * len(records[0]),)):
                        self.none(led, bent(state, HELD, tuple(
                            (one, more if one == holder else others) for one, others in state[HELD])))
                    self.none(led, bent(state, HELD, tuple((one, () if one == holder else more) for one, more in state[HELD])))
                if len(state[HELD]) > 1:
                    self.none(led, bent(state, HELD, state[HELD][::-1]), bent(state, HELD, state[HELD] + state[HELD][-1:]))

    def test_what_each_may_hold(self):
        cast = ("cast", (2, "cast"))
        state = states_of(SORTED)[3]
        for many in range(6):
            self.assertTrue(is_state(*SORTED.asked, with_held(state, cast, ((1, 1),) * many)))
        self.none(SORTED, with_held(state, cast, ((1, 1),) * 6), with_held(state, cast, ((1, 1),) * 7))
        gather = ("step", (3, "step"))
        state = states_of(SORTED)[16]
        self.assertTrue(is_state(*SORTED.asked, with_held(state, gather, ())))
        self.none(SORTED, with_held(state, gather, ((1, 1, 1),) * 2), with_held(state, gather, ((1, 1),)))
        carry = ("step", (3, "step"))
        state = states_of(BOTH)[1]
        self.none(BOTH, with_held(state, carry, ()), with_held(state, carry, ((1,), (2,))), with_held(state, carry, ((1, 2),)))
        block = ("block", (2, "block"))
        for state in states_of(BLOCKED)[:-1]:
            most = {"fill": 1, "hold": 2, "hand": 2}[state[PHASE][0]]
            self.assertTrue(is_state(*BLOCKED.asked, with_held(state, block, ((1, 1),) * most)))
            self.none(BLOCKED, with_held(state, block, ((1, 1),) * (most + 1)), with_held(state, block, ((1, 1, 1),)))
            if state[PHASE] == ("fill",):
                self.none(BLOCKED, with_held(state, block, ((1, 1, 1, 1),)))

    def test_kept_tables_as_many_as_are_read(self):
        two, three = ("kept", (2, "step")), ("kept", (3, "step"))
        for state in states_of(KEPT)[:-1]:
            there = dict(state[HELD])
            for holder in (two, three):
                records = there.get(holder, ())
                self.assertTrue(is_state(*KEPT.asked, with_held(state, holder, ((9, 9),) * len(records))))
                self.none(KEPT, with_held(state, holder, records + ((9, 9),)))
                if records:
                    self.none(KEPT, with_held(state, holder, records[1:]), with_held(state, holder, ()))
        drive = states_of(KEPT)[7]
        self.assertEqual(drive[PHASE], ("drive",))
        names = KEPT.tables["names"]
        # The file of a table has as many rows as were read of it.
        self.none(KEPT, with_file(drive, N1, names + ((1, 1),)), with_file(drive, N1, names[1:]))
        self.assertTrue(is_state(*KEPT.asked, with_file(drive, N1, ((9, 9),) * 3)))

    def test_nothing_flows_ahead_of_the_drive(self):
        program = alone(SALE, NAMES, ("gather", 0, 1, ()), ("look", 2, 1, 0, 0), ("carry", 3, 1, 5))
        led = Led(program, 1000, (((3, "kept"),), (((2, "step"), (3, "step"), (4, "step")),)), KEPT.tables)
        for state in states_of(led)[:-1]:
            other = with_held(state, ("step", (2, "step")), ((7,),))
            self.assertEqual(is_state(*led.asked, other), state[PHASE][0] != "kept")
            self.assertIn((("step", (4, "step")), ((5,),)) if state[PHASE][0] == "kept" else state[HELD][-1], state[HELD])
            self.none(led, with_held(state, ("step", (4, "step")), ()))

    def test_behind_its_close_a_part_holds_nothing(self):
        program = alone(SALE, ("gather", 0, 1, ()), ("gather", 0, 2, ()), outputs=(1, 2))
        led = Led(program, 100, ((), (((1, "step"), (2, "step")),)), {"sale": numbered(3, 4)})
        states = [state for state in states_of(led) if state[PHASE][0] == "close"]
        self.assertEqual([state[HELD] for state in states],
                         [((("step", (1, "step")), ((4,),)), (("step", (2, "step")), ((4, 1),))),
                          ((("step", (2, "step")), ((4, 1),)),)])
        self.none(led, with_held(states[1], ("step", (1, "step")), ((4,),)))

    def test_more_words_than_told_of_the_pass(self):
        for led in BY_HAND:
            for state in states_of(led)[:-1]:
                for holder, records in state[HELD]:
                    told = told_room(led.program, led.room, led.plan[0], led.plan[1][state[DONE]])
                    self.none(led, with_held(state, holder, (records[0],) * (told // len(records[0] or (1,)) + 1)))

    def test_heads(self):
        seen = 0
        for led in (NARROW, MET, SORTED):
            for state in states_of(led):
                for holder, heads in state[HELD]:
                    if holder[0] != "heads":
                        continue
                    for place, head in enumerate(heads):
                        if head != ():
                            seen += 1
                            others = (head[0] + 1,) + head[1:]
                            self.none(led, with_held(state, holder, heads[:place] + (others,) + heads[place + 1:]))
                    self.none(led, with_held(state, holder, heads + ((),)), with_held(state, holder, heads + heads[:1]),
                              with_held(state, holder, ((),) * len(heads)))
                    if len(heads) > 1:
                        self.none(led, with_held(state, holder, heads[:-1]))
                    if len(heads) > 1 and heads[0] != heads[1]:
                        self.none(led, with_held(state, holder, (heads[1], heads[0]) + heads[2:]))
                    for at, (side, name, many) in enumerate(state[READS]):
                        manys = [entry[2] for entry in state[READS]]
                        manys[at] -= 1
                        self.none(led, with_reads(state, *manys))
        self.assertGreater(seen, 100)

    def test_no_head_only_of_a_run_without_more(self):
        cast = (2, "cast")
        states = [state for state in states_of(SORTED) if state[DONE] == 1]
        runs = [("run", cast, 0), ("run", cast, 1)]
        state = [one for one in states if dict(one[HELD]).get(("heads", cast)) == ((3, 0), ())][0]
        self.assertEqual([many for _, _, many in state[READS]], [5, 1])
        more = with_file(state, runs[1], ((2, 8), (7, 7)))
        self.none(SORTED, more)
        # Where the second record is read, too, it is a head again.
        again = with_held(with_reads(more, 5, 2), ("heads", cast), ((3, 0), (7, 7)))
        self.assertTrue(is_state(*SORTED.asked, again))
        run = run_from(*SORTED.asked, again)
        run.finish()
        self.assertEqual(run.outcome()[1][0][-1], (7, 7, 1))
        # Nothing is a head where nothing is read, or all is.
        begin = states[0]
        self.assertEqual((begin[PHASE], begin[HELD]), (("drive",), ()))
        self.none(SORTED, with_reads(begin, 1, 1), with_reads(begin, 1, 0), with_reads(begin, 6, 1),
                  with_held(begin, ("heads", cast), ((0, 4), (2, 8))))

    def test_what_a_meet_found(self):
        found = ("found", (2, "meet"))
        states = [state for state in states_of(MET) if state[DONE] == 2 and state[PHASE] == ("drive",)]
        self.assertGreater(len([state for state in states if found in dict(state[HELD])]), 10)
        self.none(MET, with_held(states[0], found, ((0, 8),)))
        for state in states:
            if found in dict(state[HELD]):
                self.none(MET, with_held(state, found, ((0, 8), (0, 8))), with_held(state, found, ((0, 8, 0),)))
        close = [state for state in states_of(MET) if state[PHASE] == ("close", (2, "meet"))][0]
        self.none(MET, with_held(close, found, ((0, 8),)))


class Files(unittest.TestCase):
    def is_one(self, led, state, expected):
        self.assertEqual(is_state(*led.asked, state), expected, state)
        if expected:
            run = run_from(*led.asked, state)
            self.assertEqual(run.state(), state)
            run.finish()

    def test_needed_reads(self):
        for led in BY_HAND:
            for state in states_of(led)[::5]:
                for name in [("node", k) for k, node in enumerate(led.program[0]) if node[0] == "read"]:
                    self.is_one(led, with_file(state, name, None), False)
        program = alone(SALE, NAMES, ("keep", 0, 1))
        led = Led(program, 40, ((), (((2, "step"),),)), KEPT.tables)
        self.is_one(led, with_file(states_of(led)[1], N1, ((3, 1),)), False)

    def test_none_that_no_pass_made_by_now(self):
        cast = (2, "cast")
        for state in states_of(SORTED):
            for name in (("node", 1), ("node", 2), ("node", 4), ("run", (1, "cast"), 0), ("run", (2, "merge"), 0),
                         ("run", (3, "step"), 0), ("ahead", cast, 0), ("ahead", (2, "merge"), 0), ("node", -1)):
                self.is_one(SORTED, with_file(state, name, ((1, 1),)), False)
            if state[DONE] == 0:
                self.is_one(SORTED, with_file(state, ("node", 3), ((1, 1, 1),)), False)
            self.is_one(SORTED, bent(state, STORE, state[STORE] + ((("tree", 1), ((1, 1),)),)), False)

    def test_widths_and_no_empty_files(self):
        for led in BY_HAND:
            for state in states_of(led)[::2]:
                for name, rows in state[STORE]:
                    for other in (rows[:-1] + ((1,) * 7,), tuple(record + (1,) for record in rows),
                                  tuple(record[:-1] for record in rows), rows[:-1] + ((),), list(rows), rows[:-1] + ([1, 1],),
                                  rows[:-1] + ((TOP + 1,) + rows[-1][1:],), rows[:-1] + ((None,) + rows[-1][1:],)):
                        self.is_one(led, with_file(state, name, other), False)
                    if led.program[0][name[1] if name[0] == "node" else 1][0] != "read" or name[0] != "node":
                        self.is_one(led, with_file(state, name, ()), False)

    def test_lengths(self):
        end = states_of(SORTED)[-1]
        self.is_one(SORTED, with_file(end, N0, ()), True)
        self.is_one(SORTED, with_file(end, N0, ((1, 1),) * 60), True)
        self.is_one(SORTED, with_file(end, N0, ((1, 1),) * 61), False)
        self.is_one(SORTED, with_file(end, ("node", 3), ((1, 1, 1),) * 60), True)
        self.is_one(SORTED, with_file(end, ("node", 3), ((1, 1, 1),) * 61), False)
        # A run may be longer than its part's size, but not longer than all that may come.
        run = ("run", (2, "cast"), 0)
        self.is_one(SORTED, with_file(end, run, ((1, 1),) * 60), True)
        self.is_one(SORTED, with_file(end, run, ((1, 1),) * 61), False)
        self.is_one(SORTED, with_file(end, run, ((1, 1),)), True)

    def test_lengths_of_what_comes(self):
        """Of a left i's most, of a right j's, of a meet the look's."""
        end = states_of(MET)[-1]
        for part, record, most in (((2, "left"), (1, 1, 1), 60), ((2, "right"), (1, 1), 20), ((2, "meet"), (1,) * 5, 60)):
            self.is_one(MET, with_file(end, ("run", part, 0), (record,) * most), True)
            self.is_one(MET, with_file(end, ("run", part, 0), (record,) * (most + 1)), False)

    def test_runs_in_a_row(self):
        cast = (1, "cast")
        state = [one for one in states_of(NARROW) if one[DONE] == 0][5]
        runs = [("run", cast, number) for number in range(18)]
        more = state
        for number in range(1, 16):
            more = with_file(more, runs[number], ((1, 1),))
            self.is_one(NARROW, more, True)
        self.is_one(NARROW, with_file(more, runs[16], ((1, 1),)), False)
        self.is_one(NARROW, with_file(more, ("run", cast, -1), ((1, 1),)), False)
        self.is_one(NARROW, with_file(more, runs[7], None), False)
        self.is_one(NARROW, with_file(state, runs[2], ((1, 1),)), False)
        self.is_one(NARROW, with_file(with_file(state, runs[1], ((1, 1),)), runs[0], None), False)

    def test_those_made_ahead(self):
        cast = (1, "cast")
        for state in states_of(NARROW):
            made = {name: rows for name, rows in state[STORE] if name[0] == "ahead"}
            for name, rows in made.items():
                self.is_one(NARROW, with_file(state, name, None), False)
                self.is_one(NARROW, with_file(state, name, rows + rows[-1:]), False)
                self.is_one(NARROW, with_file(state, name, rows[:-1] or None), False)
            for number in range(6):
                if ("ahead", cast, number) not in made:
                    self.is_one(NARROW, with_file(state, ("ahead", cast, number), ((1, 1),)), False)
            if state[PHASE][0] == "ahead":
                for pairs in (state[PHASE][2] - 1, state[PHASE][2] + 1):
                    self.is_one(NARROW, bent(state, PHASE, ("ahead", cast, pairs)), False)
            else:
                self.is_one(NARROW, bent(state, PHASE, ("ahead", cast, 0)), False)

    def test_those_of_the_pair_at_hand(self):
        state = [one for one in states_of(NARROW) if one[PHASE] == ("ahead", (1, "cast"), 0)][3]
        ahead = ("ahead", (1, "cast"), 0)
        rows = dict(state[STORE])[ahead]
        self.assertEqual(len(rows), 3)
        self.is_one(NARROW, with_file(state, ahead, ((-1, 0),) * 3), True)
        for other in (None, rows[:2], rows + rows[:1]):
            self.is_one(NARROW, with_file(state, ahead, other), False)

    def test_behind_all_none_is_made_ahead(self):
        end = states_of(NARROW)[-1]
        self.is_one(NARROW, with_file(end, ("ahead", (1, "cast"), 0), ((1, 1),) * 6), False)

    def test_order_of_files(self):
        for led in BY_HAND:
            state = states_of(led)[-1]
            self.is_one(led, bent(state, STORE, state[STORE][::-1]), False)
            self.is_one(led, bent(state, STORE, state[STORE] + state[STORE][-1:]), False)

    def test_a_file_out_that_is_not_read_any_more(self):
        end = states_of(SORTED)[-1]
        for name in (("node", 3), ("run", (2, "cast"), 1)):
            self.is_one(SORTED, with_file(end, name, None), True)
        self.is_one(SORTED, with_file(end, ("run", (2, "cast"), 0), None), False)

    def test_behind_a_fault_no_pass_makes_more(self):
        program = alone(SALE, ("map", 0, (OVER,)), ("keep", 0, 1), ("sort", 0, UP), outputs=(1, 2, 3))
        plan = (((3, "half"),), (((1, "step"), (2, "step")), ((3, "cast"),), ((3, "merge"),)))
        led = Led(program, 100, plan, {"sale": numbered(2, 4, 5, 0)})
        end = states_of(led)[-1]
        self.assertEqual((end[LOWEST][0], [name for name, _ in end[STORE]]), ((1, 3, "nought"), [N0, N1, ("node", 2)]))
        self.is_one(led, with_file(end, ("node", 2), numbered(2)), True)
        for name in (("node", 3), ("run", (3, "cast"), 0)):
            self.is_one(led, with_file(end, name, ((1, 1),)), False)
        without = bent(end, LOWEST, ((), ()))
        self.is_one(led, with_file(with_file(without, ("node", 3), ((1, 1),)), ("run", (3, "cast"), 0), ((1, 1),)), True)


class Lowest(unittest.TestCase):
    """Each kind of node that may fall, in passes of its own."""

    PROGRAM = alone(SALE, ("map", 0, (OVER,)), ("keep", 0, OVER), ("carry", 0, OVER, 1), ("gather", 0, 1, (("sum", 1),)),
                    ("beside", 0, 0), ("first", 0, 5), ("sort", 0, UP), outputs=(1, 2, 3, 4, 5, 6, 7))
    ONES = tuple(((k, "step"),) for k in (1, 2, 3, 4)) + (((5, "beside"),), ((6, "step"),), ((7, "cast"),), ((7, "merge"),))
    LED = Led(PROGRAM, 100, (((7, "half"),), ONES), {"sale": numbered(3, 4)})

    def setUp(self):
        self.end = states_of(self.LED)[-1]

    def is_first(self, fault, expected):
        # No file of a pass that is left out.
        end = self.end
        for k in (1, 2, 3, 4, 5, 6, 7):
            end = with_file(end, ("node", k), None)
        end = with_file(end, ("run", (7, "cast"), 0), None)
        state = bent(end, LOWEST, (fault, ()))
        self.assertEqual(is_state(*self.LED.asked, state), expected, fault)
        if expected:
            self.assertEqual(run_from(*self.LED.asked, state).outcome(), ("fault", fault))

    def test_words_of_its_kind(self):
        fits = {1: ("nought", "great"), 2: ("nought", "great"), 3: ("nought", "great"), 4: ("great",), 5: ("uneven",)}
        for k in range(-1, 9):
            for word in ("nought", "great", "uneven", "", "Great", "half"):
                self.is_first((k, 0, word), word in fits.get(k, ()))

    def test_numbers(self):
        for k in (1, 2, 3, 4):
            for number, expected in ((0, True), (59, True), (60, False), (-1, False), (10 ** 59, False)):
                self.is_first((k, number, "great"), expected)

    def test_uneven(self):
        """No more than the lesser of both mosts, and below the greater: none where both are alike and all are there."""
        for number, expected in ((0, True), (59, True), (60, False), (-1, False)):
            self.is_first((5, number, "uneven"), expected)
        for few, many in ((20, 60), (60, 20)):
            program = alone(("read", "a", ((0, 9),), few), ("read", "b", ((0, 9),), many), ("beside", 0, 1))
            for number, expected in ((0, True), (19, True), (20, True), (21, False), (60, False)):
                state = (1, ("end",), (), (), (), ((N0, ()), (N1, ())), ((2, number, "uneven"), ()))
                self.assertEqual(is_state(program, 40, ((), (((2, "beside"),),)), state), expected)

    def test_forms(self):
        for fault in ANYTHING + [(1, 0), (1, 0, "nought", 0), (True, 0, "nought"), (1, False, "nought"), [1, 0, "nought"],
                                 (1, 0, None), ("1", 0, "nought"), (1, 0, ["nought"])]:
            if fault == ():
                continue
            self.is_first(fault, False)
        for thing in ((), ((),), ((), (), ()), [(), ()], ((), None), None):
            self.assertFalse(is_state(*self.LED.asked, bent(self.end, LOWEST, thing)))

    def test_of_a_pass_ahead(self):
        run = run_of(self.LED)
        while run.state()[DONE] < 2:
            run.turn()
        state = run.state()
        for fault, expected in (((2, 0, "nought"), False), ((3, 0, "nought"), False), ((4, 0, "great"), False)):
            self.assertEqual(is_state(*self.LED.asked, bent(state, LOWEST, (fault, ()))), expected)
        # Node 1's would leave this pass out.
        self.assertFalse(is_state(*self.LED.asked, bent(state, LOWEST, ((1, 0, "nought"), ()))))
        self.assertFalse(is_state(*self.LED.asked, bent(state, LOWEST, ((), (1, 0, "nought")))))

    def test_behind_all_there_is_none_of_this_pass(self):
        for fault in ((1, 0, "nought"), (5, 0, "uneven")):
            self.assertFalse(is_state(*self.LED.asked, bent(self.end, LOWEST, ((), fault))))

    def test_of_the_pass_at_hand_only_where_it_is_the_lowest(self):
        program = alone(SALE, ("map", 0, (OVER,)), ("keep", 0, 1), ("map", 0, (OVER,)), ("keep", 0, OVER),
                        outputs=(1, 2, 3, 4))
        plan = ((), (((3, "step"),), ((1, "step"), (2, "step"), (4, "step"))))
        led = Led(program, 100, plan, {"sale": numbered(2, 0, 3, 4)})
        run = run_of(led)
        run.go(5)
        state = run.state()
        one, two, four = (1, "step"), (2, "step"), (4, "step")
        ahead = (3, 1, "nought")
        # Behind node 3's fault node 4 is not done.
        self.assertEqual((state[PHASE:HELD], state[LOWEST]), ((("drive",), ((0, N0, 1),), ((one, 1), (two, 1))), (ahead, ())))
        for own, counts, expected in (((1, 0, "nought"), (), True), ((1, 0, "nought"), ((one, 1),), False),
                                      ((1, 59, "great"), (), True), ((1, 60, "great"), (), False),
                                      ((2, 0, "nought"), ((one, 1),), True), ((3, 0, "nought"), ((one, 1), (two, 1)), False),
                                      ((4, 0, "nought"), ((one, 1), (two, 1)), False)):
            bended = bent(bent(state, LOWEST, (ahead, own)), COUNTS, counts)
            self.assertEqual(is_state(*led.asked, bended), expected, own)
            if expected:
                run = run_from(*led.asked, bended)
                self.assertEqual(run.state(), bended)
                run.finish()
                self.assertEqual(run.outcome()[1][0], 1)
        bended = bent(bent(state, LOWEST, ((), (4, 0, "nought"))), COUNTS, ((one, 1), (two, 1)))
        self.assertTrue(is_state(*led.asked, bended))

    def test_none_of_this_pass_ahead_of_the_drive(self):
        program = alone(SALE, NAMES, ("map", 0, (OVER,)), ("look", 0, 1, 0, 0), outputs=(2, 3))
        led = Led(program, 1000, (((3, "kept"),), (((2, "step"), (3, "step")),)), KEPT.tables)
        for state in states_of(led)[:-1]:
            bended = bent(state, LOWEST, ((), (2, 0, "nought")))
            bended = bent(bent(bended, COUNTS, ()), HELD, ())
            self.assertEqual(is_state(*led.asked, bended), state[PHASE] == ("drive",))

    def test_none_of_this_pass_amid_ahead_and_kept(self):
        """Also where what the phase is of would not have stopped."""
        program = alone(SALE, ("sort", 0, UP), ("map", 1, (OVER,)), ("look", 1, 0, 0, 0), ("map", 3, (OVER,)),
                        outputs=(2, 3, 4))
        ways = ((1, "half"), (3, "kept"))
        plan = (ways, (((1, "cast"),), ((1, "merge"), (2, "step"), (3, "step"), (4, "step"))))
        led = Led(program, 520, plan, {"sale": numbered(*[k - k // 9 * 9 + 1 for k in range(60)])})
        phases = set()
        for state in states_of(led):
            if state[DONE] != 1:
                continue
            phases.add(state[PHASE][0])
            bended = bent(state, LOWEST, ((), (4, 0, "nought")))
            bended = bent(bended, COUNTS, tuple(entry for entry in state[COUNTS] if entry[0][0] < 4))
            self.assertEqual(is_state(*led.asked, bended), state[PHASE][0] == "drive")
        self.assertEqual(phases, {"kept", "drive"})
        program = alone(SALE, ("sort", 0, UP), ("map", 1, (OVER,)))
        plan = (((1, "half"),), (((1, "cast"),), ((1, "merge"), (2, "step"))))
        led = Led(program, 16, plan, {"sale": numbered(*[k - k // 9 * 9 + 1 for k in range(60)])})
        for state in states_of(led):
            if state[DONE] == 1:
                bended = bent(bent(state, LOWEST, ((), (2, 0, "nought"))), COUNTS, ())
                self.assertEqual(is_state(*led.asked, bended), state[PHASE][0] == "drive")

    def test_an_uneven_one_ends_its_pass(self):
        for state in states_of(BESIDE)[:-1]:
            for own in ((2, 0, "uneven"), (2, 1, "uneven")):
                bended = bent(bent(bent(state, LOWEST, ((), own)), COUNTS, ()), HELD, ())
                self.assertFalse(is_state(*BESIDE.asked, bended))
            # As long as records are read both have as many.
            if state[PHASE] == ("drive",):
                self.assertFalse(is_state(*BESIDE.asked, with_file(state, N0, BESIDE.tables["sale"] + ((1, 1),))))
                self.assertFalse(is_state(*BESIDE.asked, with_reads(state, state[READS][0][2], state[READS][1][2] + 1)))


class Bent(unittest.TestCase):
    """States bent by chance: what is one goes on, and tells itself."""

    def bend(self, chance, thing):
        if isinstance(thing, int):
            return thing + chance.choice((-1, 1, 2, -5, 100))
        if isinstance(thing, str):
            return chance.choice(("hold", "hand", "fill", "drive", "close", "step", "cast", "left", "nought", "node"))
        if not thing or chance.random() < 0.1:
            return chance.choice(((), ((),), 0, None))
        at = chance.randrange(len(thing))
        deed = chance.random()
        if deed < 0.1:
            return thing[:at] + thing[at + 1:]
        if deed < 0.2:
            return thing[:at + 1] + thing[at:]
        return thing[:at] + (self.bend(chance, thing[at]),) + thing[at + 1:]

    def test_many(self):
        chance = Random(83)
        told = {True: 0, False: 0}
        for _, led in many_led(84, 50):
            run = run_of(led)
            while not run.is_over():
                state = run.state()
                for _ in range(5 if chance.random() < 0.1 else 0):
                    other = self.bend(chance, state)
                    if other == state:
                        continue
                    expected = is_state(*led.asked, other)
                    told[expected] += 1
                    if expected:
                        again = run_from(*led.asked, other)
                        self.assertEqual(again.state(), other)
                        again.go(30)
                        again.fall()
                        again.finish()
                        again.outcome()
                    else:
                        with self.assertRaises(NoState):
                            run_from(*led.asked, other)
                run.turn()
        self.assertGreater(min(told.values()), 150)


class Refused(unittest.TestCase):
    def test_in_their_order(self):
        program, room, plan = SORTED.asked
        for ask in (is_state, run_from):
            for thing in ANYTHING:
                with self.assertRaises(NoProgram):
                    ask(thing, None, None, None)
                with self.assertRaises(NoPlan):
                    ask(program, room, thing, None)
            for thing in NO_WHOLE + [-1, 10 ** 6 + 1]:
                with self.assertRaises(NoNumber):
                    ask(program, thing, None, None)

    def test_by_name(self):
        program, room, plan = SORTED.asked
        state = states_of(SORTED)[3]
        self.assertTrue(is_state(thing=state, plan=plan, room=room, program=program))
        self.assertFalse(is_state(thing=None, plan=plan, room=room, program=program))

    def test_the_state_is_the_askers_own(self):
        run = run_of(SORTED)
        state = run.state()
        files = list(state[STORE])
        files.clear()
        run.finish()
        self.assertEqual(state, run_of(SORTED).state())
        self.assertEqual(least_head(NARROW.program, (1, "cast"), ((), (1, 1), (0, 1))), 2)


if __name__ == "__main__":
    unittest.main()
