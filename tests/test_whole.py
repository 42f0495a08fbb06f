"""What the whole promises, several things together."""

import unittest
from random import Random

from rowhaul.errors import TooWide
from rowhaul.house.house import House
from rowhaul.plans.passes import told_room
from rowhaul.plans.plans import is_plan
from rowhaul.plans.words import plan_words
from rowhaul.programs.plain import counts_of, plain
from rowhaul.running.run import Run, run_from
from rowhaul.running.states import is_state
from rowhaul.search.least import least
from rowhaul.search.rooms import least_room
from rowhaul.texts.plans import plan_text, read_plan
from rowhaul.texts.programs import program_text, read_program
from tests.houses import Memory
from tests.plans import ROOMS, busy_program, busy_tables, some_plan
from tests.programs import some_program


def program_by(chance):
    return busy_program(chance) if chance.random() < 0.7 else some_program(chance)


class Whole(unittest.TestCase):
    def test_whatever_plan_the_judge_lets_by(self):
        """Several plans of one program, in several rooms: all come to what is plain."""
        chance = Random(131)
        plans = 0
        for _ in range(60):
            program = program_by(chance)
            tables = busy_tables(chance, program)
            expected, counts = plain(program, tables), counts_of(program, tables)
            for room in chance.sample(ROOMS, 6):
                plan = some_plan(chance, program, room)
                if plan is None:
                    continue
                plans += 1
                run = Run(program, room, plan, tables)
                run.finish()
                self.assertEqual(run.outcome(), expected, (program, room, plan, tables))
                told = tuple(told_room(program, room, plan[0], one) for one in plan[1])
                self.assertTrue(all(peak <= most <= room for peak, most in zip(run.peaks(), told)))
                if counts is not None:
                    self.assertEqual(run.words(), plan_words(program, room, plan, counts=counts))
        self.assertGreater(plans, 150)

    def test_the_told_plan_in_the_least_room(self):
        chance = Random(132)
        done = 0
        while done < 40:
            program = program_by(chance)
            try:
                room = least_room(program)
            except TooWide:
                continue
            plan = least(program, room)[0]
            for tables in (busy_tables(chance, program), busy_tables(chance, program)):
                run = Run(program, room, plan, tables)
                run.finish()
                self.assertEqual(run.outcome(), plain(program, tables), (program, room, plan, tables))
                self.assertTrue(all(peak <= room for peak in run.peaks()))
            for more in ROOMS:
                self.assertEqual(is_plan(program, more, plan), more >= room or is_plan(program, more, plan))
                if more >= room:
                    self.assertTrue(is_plan(program, more, plan))
                else:
                    self.assertIsNone(least(program, more)[0])
            done += 1

    def test_stopped_fallen_gone_on_with_and_told_by_texts(self):
        chance = Random(133)
        for _ in range(50):
            program = program_by(chance)
            room = chance.choice(ROOMS[4:])
            plan = some_plan(chance, program, room)
            if plan is None:
                continue
            tables = busy_tables(chance, program)
            run = Run(program, room, plan, tables)
            # As often as one likes, but not for ever.
            for _ in range(25):
                run.go(chance.choice((0, 1, 2, 11, 60)))
                deed = chance.random()
                if deed < 0.3:
                    run.fall()
                elif deed < 0.7:
                    state = run.state()
                    self.assertTrue(is_state(program, room, plan, state))
                    program = read_program(program_text(program))
                    plan = read_plan(program, room, plan_text(program, room, plan))
                    run = run_from(program, room, plan, state)
            run.finish()
            self.assertEqual(run.outcome(), plain(program, tables))

    def test_a_house_that_is_stopped_and_changed(self):
        chance = Random(134)
        for _ in range(30):
            program = program_by(chance)
            try:
                room = min(10 ** 6, least_room(program) + chance.choice((0, 0, 5, 60)))
            except TooWide:
                continue
            house = House()
            for name, rows in busy_tables(chance, program).items():
                house.put(name, rows)
            house.lead("a", program, room)
            memory = Memory(*house.programs()["a"])
            for _ in range(8):
                house.begin("a")
                while chance.random() < 0.7:
                    house.go(chance.choice((1, 7, 30)))
                    if chance.random() < 0.4:
                        house.fall()
                told = house.finish()
                self.assertEqual(told, memory.ask(house.tables()))
                run = Run(*house.programs()["a"], house.tables())
                run.finish()
                self.assertEqual(told[0], run.outcome())
                self.assertEqual(told[2], sum(run.words()[number] for number in told[1]))
                for name, rows in busy_tables(chance, program).items():
                    if chance.random() < 0.5:
                        house.put(name, rows)

    def test_the_same_question_has_the_same_answer(self):
        chance = Random(135)
        for _ in range(15):
            program = program_by(chance)
            room = chance.choice(ROOMS[6:])
            plan = some_plan(chance, program, room)
            if plan is None:
                continue
            tables = busy_tables(chance, program)
            one, other = Run(program, room, plan, tables), Run(program, room, plan, tables)
            while not one.is_over():
                self.assertEqual((one.state(), one.words(), one.peaks()), (other.state(), other.words(), other.peaks()))
                self.assertEqual(one.state(), one.state())
                one.go(7)
                other.go(7)
            self.assertEqual(one.outcome(), other.outcome())


if __name__ == "__main__":
    unittest.main()
