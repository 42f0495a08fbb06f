"""Many programs, led pass by pass through many plans."""

import unittest
from random import Random

from rowhaul.machine.passes import Doing
from rowhaul.machine.store import Store
from rowhaul.plans.passes import told_room
from rowhaul.programs.plain import plain
from tests.plans import (begun_store, busy_program, busy_tables, files_behind, lead, room_and_plan, words_and_turns)
from tests.programs import some_program


class Many(unittest.TestCase):
    def led(self, seed, many):
        """Programs, each with a room, a plan and tables."""
        chance = Random(seed)
        for _ in range(many):
            program = busy_program(chance) if chance.random() < 0.7 else some_program(chance)
            room, plan = room_and_plan(chance, program)
            yield chance, program, room, plan, busy_tables(chance, program)

    def test_the_outcome_is_that_of_plain(self):
        ways, words = set(), set()
        for _, program, room, plan, tables in self.led(21, 250):
            told, _ = lead(program, room, plan, tables)
            self.assertEqual(told, plain(program, tables), (program, room, plan, tables))
            ways |= {word for _, word in plan[0]}
            words.add(told[0] if told[0] == "rows" else told[1][2])
        self.assertEqual(ways, {"half", "quarter", "kept", "blocked", "met"})
        self.assertEqual(words, {"rows", "nought", "great", "uneven"})

    def test_words_turns_and_files_of_each_pass(self):
        drivers = set()
        for _, program, room, plan, tables in self.led(22, 160):
            if plain(program, tables)[0] == "fault":
                continue
            store = begun_store(program, tables)
            for number, one in enumerate(plan[1]):
                doing = Doing(program, room, plan, number, store)
                while not doing.is_over():
                    phase = doing.now()[0][0]
                    drivers.add(phase)
                    doing.turn()
                asked = (program, room, plan, number, tables)
                self.assertEqual((doing.words(), doing.turned()), words_and_turns(program, room, plan[0], one, tables), asked)
                self.assertEqual(store.files(), files_behind(program, room, plan, tables, number + 1), asked)
                self.assertLessEqual(doing.peak(), told_room(program, room, plan[0], one), asked)
        self.assertEqual(drivers, {"ahead", "kept", "drive", "fill", "hold", "hand", "close"})

    def test_made_anew_again_and_again(self):
        """A run in which the pass is made anew at many turns comes to the same."""
        for chance, program, room, plan, tables in self.led(23, 80):
            store = begun_store(program, tables)
            other = begun_store(program, tables)
            lowest = ()
            for number, one in enumerate(plan[1]):
                below = lowest[0] if lowest else None
                doing = Doing(program, room, plan, number, store, below=below)
                again = Doing(program, room, plan, number, other, below=below)
                words = turns = 0
                while not doing.is_over():
                    if chance.random() < 0.3:
                        words, turns = words + again.words(), turns + again.turned()
                        other = Store(other.files())
                        again = Doing(program, room, plan, number, other, below=below, now=again.now(), own=again.fault())
                    self.assertEqual(again.now(), doing.now())
                    doing.turn()
                    again.turn()
                    self.assertEqual(other, store)
                self.assertEqual((words + again.words(), turns + again.turned()), (doing.words(), doing.turned()))
                self.assertEqual((again.is_over(), again.fault()), (True, doing.fault()))
                lowest = doing.fault() or lowest

    def test_two_passes_at_hand_do_not_meet(self):
        for chance, program, room, plan, tables in self.led(24, 30):
            if not plan[1]:
                continue
            one, other = begun_store(program, tables), begun_store(program, tables)
            first = Doing(program, room, plan, 0, one)
            second = Doing(program, room, plan, 0, other)
            while not first.is_over():
                first.turn()
            while not second.is_over():
                second.turn()
            self.assertEqual((one, first.words(), first.peak()), (other, second.words(), second.peak()))


if __name__ == "__main__":
    unittest.main()
