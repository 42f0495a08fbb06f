"""Runs that fall, and begin the pass at hand anew."""

import unittest

from rowhaul.errors import Over
from rowhaul.programs.plain import plain
from rowhaul.running.run import Run, run_from
from rowhaul.running.states import is_state
from tests.runs import (BESIDE, BLOCKED, BOTH, BY_HAND, KEPT, MET, N0, NARROW, OVER, SALE, SORTED, UP, Led, many_led,
                        numbered)
from tests.test_run import run_of
from tests.test_states import DONE, HELD, LOWEST, PHASE, STORE, bent, states_of, with_held
from tests.things import alone


def begins_of(led):
    """By its number the state ahead of each pass's first turn, and that behind all."""
    told = {}
    for state in states_of(led):
        told.setdefault(state[DONE], state)
    return told


class Falls(unittest.TestCase):
    def test_at_each_turn(self):
        phases = set()
        for led in BY_HAND:
            begins = begins_of(led)
            whole = run_of(led)
            whole.finish()
            for at in range(sum(whole.turned()) + 1):
                run = run_of(led)
                run.go(at)
                state, words, turned, peaks = run.state(), run.words(), run.turned(), run.peaks()
                phases.add(state[PHASE][0])
                self.assertIsNone(run.fall())
                number = state[DONE]
                if run.is_over():
                    self.assertEqual((run.state(), run.words(), run.turned(), run.peaks(), run.lost()),
                                     (state, words, turned, peaks, 0))
                    continue
                self.assertEqual(run.state(), begins[number])
                self.assertTrue(is_state(*led.asked, run.state()))
                fresh = run_of(led)
                while fresh.state()[DONE] < number:
                    fresh.turn()
                self.assertEqual((run.words(), run.turned(), run.peaks()), (fresh.words(), fresh.turned(), fresh.peaks()))
                self.assertEqual(run.lost(), words[number])
                run.finish()
                self.assertEqual((run.outcome(), run.state()), (plain(led.program, led.tables), whole.state()))
                self.assertEqual((run.words(), run.turned(), run.peaks(), run.lost()),
                                 (whole.words(), whole.turned(), whole.peaks(), words[number]))
        self.assertEqual(phases, {"ahead", "kept", "drive", "fill", "hold", "hand", "close", "end"})

    def test_ahead_of_the_first_turn_nothing_changes(self):
        for led in BY_HAND:
            for number, state in begins_of(led).items():
                for run in (run_of(led), run_from(*led.asked, state)):
                    while run.state() != state:
                        run.turn()
                    told = (run.words(), run.turned(), run.peaks(), run.lost())
                    run.fall()
                    run.fall()
                    self.assertEqual((run.state(), run.words(), run.turned(), run.peaks(), run.lost()), (state,) + told)

    def test_the_files_that_it_made_are_taken_off(self):
        run = run_of(SORTED)
        run.go(9)
        self.assertEqual([name for name, _ in run.state()[STORE]], [N0, ("run", (2, "cast"), 0)])
        run.fall()
        self.assertEqual([name for name, _ in run.state()[STORE]], [N0])
        self.assertEqual(run.lost(), 18 + 12)
        run.finish()
        run = run_of(NARROW)
        ahead = 0
        while not run.is_over():
            names = [name for name, _ in run.state()[STORE]]
            if run.state()[DONE] == 1 and "ahead" in [name[0] for name in names]:
                ahead += 1
                again = run_from(*NARROW.asked, run.state())
                again.fall()
                self.assertEqual([name for name, _ in again.state()[STORE]], [name for name in names if name[0] != "ahead"
                                                                             and name != ("node", 1)])
            run.turn()
        self.assertGreater(ahead, 20)

    def test_files_of_passes_ahead_stay(self):
        run = run_of(MET)
        while run.state()[DONE] < 3:
            run.turn()
        files = run.state()[STORE]
        run.go(5)
        self.assertNotEqual(run.state()[STORE], files)
        run.fall()
        self.assertEqual(run.state()[STORE], files)

    def test_again_and_again(self):
        for led in BY_HAND:
            run = run_of(led)
            lost = 0
            for many in (1, 3, 4, 2, 7):
                run.go(many)
                if not run.is_over():
                    lost += run.words()[run.state()[DONE]]
                run.fall()
                self.assertEqual(run.lost(), lost)
            run.finish()
            self.assertEqual((run.outcome(), run.lost()), (plain(led.program, led.tables), lost))
            run.fall()
            self.assertEqual((run.is_over(), run.lost()), (True, lost))
            with self.assertRaises(Over):
                run.turn()

    def test_a_lowest_fault_that_it_met_is_gone(self):
        program = alone(SALE, ("keep", 0, 1), ("map", 0, (OVER,)), ("map", 0, (OVER,)), outputs=(1, 2, 3))
        plan = ((), (((3, "step"),), ((1, "step"), (2, "step"))))
        led = Led(program, 100, plan, {"sale": numbered(1, 0, 2)})
        run = run_of(led)
        run.go(2)
        self.assertEqual(run.state()[LOWEST], ((), (3, 1, "nought")))
        run.fall()
        self.assertEqual((run.state()[LOWEST], run.state()[DONE], run.lost()), (((), ()), 0, 5))
        run.go(5)
        self.assertEqual(run.state()[LOWEST], ((3, 1, "nought"), (2, 1, "nought")))
        # That of the pass ahead stays.
        run.fall()
        self.assertEqual((run.state()[LOWEST], run.state()[DONE], run.lost()), (((3, 1, "nought"), ()), 1, 5 + 4 + 2 + 1 + 2))
        run.finish()
        self.assertEqual(run.outcome(), ("fault", (2, 1, "nought")))

    def test_out_of_a_state(self):
        """What fell is what this run moved; the pass begins anew all the same."""
        for led in BY_HAND:
            begins = begins_of(led)
            for state in states_of(led)[:-1]:
                run = run_from(*led.asked, state)
                run.fall()
                self.assertEqual((run.state(), run.lost()), (begins[state[DONE]], 0))
                run = run_from(*led.asked, state)
                run.turn()
                words = run.words()[state[DONE]]
                done = run.state()[DONE]
                run.fall()
                self.assertEqual(run.lost(), words if done == state[DONE] else 0)
                run.finish()
                self.assertEqual(run.outcome(), plain(led.program, led.tables))

    def test_what_a_bent_state_held_is_lost(self):
        state = states_of(SORTED)[5]
        run = run_from(*SORTED.asked, with_held(state, ("cast", (2, "cast")), ((8, 8),)))
        run.fall()
        self.assertEqual(run.state(), states_of(SORTED)[0])
        run.finish()
        self.assertEqual(run.outcome(), plain(SORTED.program, SORTED.tables))

    def test_each_kind_of_thing_that_is_held_is_let_go(self):
        seen = set()
        for led in (SORTED, NARROW, KEPT, BLOCKED, MET, BOTH, BESIDE):
            for state in states_of(led)[:-1]:
                seen |= {holder[0] for holder, _ in state[HELD]}
                run = run_from(*led.asked, state)
                run.fall()
                carries = [holder for holder, _ in run.state()[HELD]]
                self.assertEqual(carries, [("step", (3, "step"))] if led is BOTH else [])
        self.assertEqual(seen, {"heads", "kept", "step", "cast", "block", "found"})

    def test_many(self):
        for chance, led in many_led(91, 80):
            run, whole = run_of(led), run_of(led)
            whole.finish()
            lost = 0
            falls = 0
            while not run.is_over():
                run.go(chance.choice((1, 3, 20, 90)))
                if chance.random() < 0.5 and falls < 12:
                    falls += 1
                    if not run.is_over():
                        lost += run.words()[run.state()[DONE]]
                    run.fall()
                    self.assertEqual(run.lost(), lost)
                if chance.random() < 0.2:
                    run = run_from(*led.asked, run.state())
                    lost = 0
            self.assertEqual((run.outcome(), run.state()), (plain(led.program, led.tables), whole.state()),
                             (led.asked, led.tables))

    def test_words_turns_and_peaks_begin_anew(self):
        for chance, led in many_led(92, 60):
            run, whole = run_of(led), run_of(led)
            whole.finish()
            for _ in range(3):
                run.go(chance.choice((1, 5, 30)))
                run.fall()
            run.finish()
            self.assertEqual((run.words(), run.turned(), run.peaks()), (whole.words(), whole.turned(), whole.peaks()))


class FaultsAndFalls(unittest.TestCase):
    """Several faults in several passes, and falls between."""

    PROGRAM = alone(SALE, ("sort", 0, UP), ("map", 0, (OVER,)), ("map", 1, (("over", 6, ("at", 1)), 1)), ("look", 3, 3, 1, 1),
                    ("keep", 2, 1), outputs=(3, 4, 5))
    WAYS = ((1, "half"), (4, "blocked"))
    PLAN = (WAYS, (((1, "cast"),), ((1, "merge"), (3, "step")), ((4, "block"),), ((2, "step"), (5, "step"))))

    def test_at_each_turn(self):
        for rows, fault in ((((3, 1), (5, 0), (0, 4)), (2, 2, "nought")), (((3, 1), (5, 0), (1, 4)), (3, 1, "nought"))):
            if fault[0] == 3:
                # As they stand sorted the record of nought is the last but none.
                fault = (3, 2, "nought")
            led = Led(self.PROGRAM, 100, self.PLAN, {"sale": rows})
            whole = run_of(led)
            whole.finish()
            self.assertEqual(whole.outcome(), ("fault", fault))
            self.assertEqual(plain(self.PROGRAM, led.tables), ("fault", fault))
            # The block is left out, or done by none.
            self.assertEqual(whole.turned()[2], 0)
            for at in range(sum(whole.turned()) + 1):
                run = run_of(led)
                run.go(at)
                run.fall()
                run = run_from(*led.asked, run.state())
                run.finish()
                self.assertEqual(run.state(), whole.state())

    def test_by_name(self):
        self.assertEqual(Run(program=self.PROGRAM, room=100, plan=self.PLAN, tables={"sale": ()}).lost(), 0)
        self.assertEqual(bent((1, 2), 1, 3), (1, 3))


if __name__ == "__main__":
    unittest.main()
