import unittest
from random import Random

from rowhaul.errors import Busy, Missing, Over, Unfit
from rowhaul.house.house import House
from rowhaul.plans.words import plan_words
from rowhaul.programs.plain import counts_of, plain
from rowhaul.running.run import Run
from tests.houses import Memory
from tests.plans import busy_program, busy_tables, room_and_plan
from tests.programs import some_program
from tests.runs import BESIDE, BLOCKED, BOTH, BY_HAND, KEPT, MET, NAMES, OVER, SALE, SORTED, many_led, numbered
from tests.things import alone


def house_of(led, name="a"):
    house = House()
    for table in led.tables:
        house.put(table, led.tables[table])
    house.lead(name, *led.asked[:2], plan=led.plan)
    return house


def words_of(led, tables=None):
    """The words of each pass of a fresh run."""
    run = Run(*led.asked, led.tables if tables is None else tables)
    run.finish()
    return run.words()


class Asked(unittest.TestCase):
    def test_the_first_one_does_all(self):
        for led in BY_HAND:
            house = house_of(led)
            self.assertEqual(house.ask("a"), (plain(led.program, led.tables), tuple(range(len(led.plan[1]))), sum(words_of(led))))

    def test_nothing_is_done_again(self):
        for led in BY_HAND:
            house = house_of(led)
            house.ask("a")
            for _ in range(2):
                self.assertEqual(house.ask("a"), (plain(led.program, led.tables), (), 0))

    def test_a_change_that_comes_to_nothing(self):
        """A record that isn't kept changes just the pass that reads it."""
        house = house_of(SORTED)
        house.ask("a")
        house.change("sale", 1, (9, 77))
        tables = house.tables()
        self.assertEqual(house.ask("a"), (plain(SORTED.program, tables), (0,), words_of(SORTED, tables)[0]))
        house.strike("sale", 5)
        self.assertEqual(house.ask("a")[1:], ((0,), words_of(SORTED, house.tables())[0]))
        house.change("sale", 0, (3, 5))
        self.assertEqual(house.ask("a")[1:], ((0, 1), sum(words_of(SORTED, house.tables()))))

    def test_changed_and_changed_back(self):
        house = house_of(SORTED)
        told = house.ask("a")[0]
        house.change("sale", 0, (1, 1))
        house.change("sale", 0, SORTED.tables["sale"][0])
        self.assertEqual(house.ask("a"), (told, (), 0))
        house.put("sale", ())
        house.put("sale", SORTED.tables["sale"])
        self.assertEqual(house.ask("a"), (told, (), 0))
        # With an ask between it is changed twice.
        house.change("sale", 0, (1, 1))
        self.assertEqual(house.ask("a")[1], (0, 1))
        house.change("sale", 0, SORTED.tables["sale"][0])
        self.assertEqual(house.ask("a"), (told, (0, 1), sum(words_of(SORTED))))

    def test_a_pass_of_its_own_files_alone(self):
        """One side of a meet is cast anew where its table changes, the other is not."""
        house = house_of(MET)
        house.ask("a")
        house.change("names", 2, (9, 9))
        self.assertEqual(house.ask("a")[1], (1, 2, 3))
        house.change("sale", 0, (0, 99))
        self.assertEqual(house.ask("a")[1], (0, 2, 3))
        # A right record behind one that is alike is read, but never found.
        house.change("names", 5, (7, 55))
        words = words_of(MET, house.tables())
        self.assertEqual(house.ask("a"), (plain(MET.program, house.tables()), (1, 2), words[1] + words[2]))

    def test_a_table_that_is_kept(self):
        house = house_of(KEPT)
        house.ask("a")
        house.change("names", 2, (8, 8))
        self.assertEqual(house.ask("a"), (plain(KEPT.program, house.tables()), (0,), sum(words_of(KEPT, house.tables()))))

    def test_other_programs_and_tables(self):
        house = house_of(SORTED)
        house.put("names", numbered(1, 2))
        house.lead("b", *KEPT.asked[:2], plan=KEPT.plan)
        house.ask("a")
        self.assertEqual(house.ask("b")[1], (0,))
        house.strike("names", 0)
        self.assertEqual((house.ask("a")[1], house.ask("b")[1]), ((), (0,)))
        house.put("more", ((1,),))
        self.assertEqual((house.ask("a")[1], house.ask("b")[1]), ((), ()))
        house.drop("b")
        with self.assertRaises(Missing):
            house.ask("b")
        self.assertEqual(house.ask("a")[1], ())

    def test_led_anew_nothing_of_it_is_done(self):
        house = house_of(SORTED)
        first = house.ask("a")
        house.lead("a", *SORTED.asked[:2], plan=SORTED.plan)
        self.assertEqual(house.ask("a"), first)
        house.drop("a")
        house.lead("a", *SORTED.asked[:2], plan=SORTED.plan)
        self.assertEqual(house.ask("a"), first)
        # What was refused has changed nothing.
        with self.assertRaises(Unfit):
            house.lead("a", alone(("read", "none", ((0, 1),), 3), ("keep", 0, 1)), 100)
        self.assertEqual(house.ask("a")[1:], ((), 0))

    def test_the_same_program_twice(self):
        house = house_of(SORTED)
        house.lead("b", *SORTED.asked[:2], plan=SORTED.plan)
        house.ask("a")
        self.assertEqual(house.ask("b")[1], (0, 1))

    def test_reads_alone(self):
        house = House()
        house.put("sale", numbered(3))
        house.lead("a", alone(SALE), 0)
        self.assertEqual(house.ask("a"), (("rows", (((3, 0),),)), (), 0))
        house.change("sale", 0, (4, 0))
        self.assertEqual(house.ask("a"), (("rows", (((4, 0),),)), (), 0))

    def test_what_is_told_is_as_of_a_fresh_run(self):
        for led in (SORTED, KEPT, BLOCKED, MET, BOTH, BESIDE):
            house = house_of(led)
            for name in led.tables:
                house.ask("a")
                house.put(name, led.tables[name][::-1])
                self.assertEqual(house.ask("a")[0], plain(led.program, house.tables()))


class Faults(unittest.TestCase):
    """A map that may fall in the first pass, a keep of a lesser node and one of a greater in the second."""

    PROGRAM = alone(SALE, NAMES, ("keep", 0, 1), ("map", 0, (OVER,)), ("keep", 1, 1), ("map", 1, (OVER,)),
                    outputs=(2, 3, 4, 5))
    PLAN = ((), (((3, "step"),), ((2, "step"),), ((4, "step"), (5, "step"))))

    def setUp(self):
        self.house = House()
        self.house.put("sale", numbered(1, 2))
        self.house.put("names", numbered(4, 5))
        self.house.lead("a", self.PROGRAM, 100, plan=self.PLAN)

    def asked(self, passes, words=None):
        told = self.house.ask("a")
        self.assertEqual(told[0], plain(self.PROGRAM, self.house.tables()))
        self.assertEqual(told[1], passes)
        if words is not None:
            self.assertEqual(told[2], words)
        return told[0]

    def test_a_fault_comes_and_goes(self):
        self.asked((0, 1, 2), 4 + 2 + 4 + 4 + 4 + 4 + 2)
        self.house.change("sale", 1, (0, 1))
        # Its own pass, and the one that reads the table; the third is left out.
        self.assertEqual(self.asked((0, 1)), ("fault", (3, 1, "nought")))
        self.assertEqual(self.asked(()), ("fault", (3, 1, "nought")))
        # A change of a table that only a left out pass reads.
        self.house.change("names", 0, (6, 6))
        self.asked((), 0)
        self.house.change("names", 0, (4, 0))
        self.house.change("sale", 1, (2, 1))
        # The third was done last of the parts that it does now, and of the same rows.
        self.asked((0, 1))
        self.house.change("names", 0, (0, 0))
        self.assertEqual(self.asked((2,)), ("fault", (5, 0, "nought")))
        self.asked(())

    def test_other_parts(self):
        """Where a fault comes between its parts a pass is done again, and again where it goes."""
        program = alone(SALE, NAMES, ("keep", 1, 1), ("map", 0, (OVER,)), ("keep", 1, 1), outputs=(2, 3, 4))
        plan = ((), (((3, "step"),), ((2, "step"), (4, "step"))))
        self.house.lead("a", program, 100, plan=plan)
        self.assertEqual(self.house.ask("a")[1], (0, 1))
        self.house.change("sale", 0, (0, 0))
        self.assertEqual(self.house.ask("a"), (("fault", (3, 0, "nought")), (0, 1), 4 + 4 + 4))
        self.house.change("sale", 0, (0, 7))
        # Another fault of the same node: the other pass does the same parts.
        self.assertEqual(self.house.ask("a")[1:], ((0,), 4))
        self.house.change("sale", 0, (1, 7))
        self.assertEqual(self.house.ask("a")[1:], ((0, 1), 4 + 2 + 4 + 4 + 4))
        self.assertEqual(self.house.ask("a")[1:], ((), 0))

    def test_a_fault_that_was_met_is_as_it_was(self):
        """A pass that isn't done again still tells its fault, and its files of parts that stopped aren't read."""
        self.house.change("sale", 1, (0, 1))
        self.asked((0, 1))
        for _ in range(3):
            self.asked((), 0)
        self.house.put("names", ())
        self.assertEqual(self.asked(()), ("fault", (3, 1, "nought")))

    def test_uneven(self):
        house = house_of(BESIDE)
        self.assertEqual(house.ask("a")[1], (0,))
        house.strike("sale", 0)
        # A pass without turns is done as it is come to.
        self.assertEqual(house.ask("a"), (("fault", (2, 2, "uneven")), (0,), 0))
        self.assertEqual(house.ask("a"), (("fault", (2, 2, "uneven")), (), 0))
        house.strike("names", 0)
        self.assertEqual(house.ask("a")[:2], (plain(BESIDE.program, house.tables()), (0,)))


class ByTurns(unittest.TestCase):
    def test_begun_and_finished(self):
        for led in BY_HAND:
            house, other = house_of(led), house_of(led)
            self.assertIsNone(house.begin("a"))
            self.assertTrue(house.is_busy())
            many = 0
            while house.go(1):
                many += 1
                self.assertTrue(house.is_busy())
            run = Run(*led.asked, led.tables)
            run.finish()
            self.assertEqual(many, sum(run.turned()))
            # Though no turn is left, it is on till it is finished.
            with self.assertRaises(Busy):
                house.ask("a")
            self.assertEqual((house.go(5), house.go(0)), (0, 0))
            self.assertEqual(house.finish(), other.ask("a"))
            self.assertFalse(house.is_busy())
            for deed in (house.finish, house.leave, house.fall):
                with self.assertRaises(Over):
                    deed()
            self.assertEqual(house.ask("a")[1], ())

    def test_fallen(self):
        for led in BY_HAND:
            for many in (1, 2, 5, 9, 17):
                house, other = house_of(led), house_of(led)
                house.begin("a")
                house.go(many)
                self.assertIsNone(house.fall())
                house.go(1)
                house.fall()
                # Words are those from the last beginning of each pass.
                self.assertEqual(house.finish(), other.ask("a"))

    def test_fallen_a_pass_has_all_its_turns_again(self):
        house = house_of(SORTED)
        house.begin("a")
        house.go(4)
        house.fall()
        self.assertEqual(house.go(10 ** 6), 11 + 8)
        house.finish()
        house = house_of(SORTED)
        house.begin("a")
        house.go(15)
        house.fall()
        self.assertEqual(house.go(10 ** 6), 8)

    def test_left(self):
        """Passes done till then are done, the one at hand and those behind are as they were."""
        house = house_of(SORTED)
        words = words_of(SORTED)
        house.begin("a")
        house.go(10)
        self.assertIsNone(house.leave())
        self.assertFalse(house.is_busy())
        self.assertEqual(house.ask("a")[1:], ((0, 1), sum(words)))
        house = house_of(SORTED)
        house.begin("a")
        house.go(11)
        house.leave()
        house.begin("a")
        house.go(3)
        house.leave()
        self.assertEqual(house.ask("a")[1:], ((1,), words[1]))

    def test_left_as_it_was_ahead_of_the_ask(self):
        house = house_of(SORTED)
        house.ask("a")
        rows = SORTED.tables["sale"]
        house.change("sale", 0, (5, 5))
        house.begin("a")
        house.go(4)
        house.leave()
        house.change("sale", 0, rows[0])
        # The first pass was last done of just these rows.
        self.assertEqual(house.ask("a")[1:], ((), 0))
        house.change("sale", 0, (5, 5))
        house.begin("a")
        house.go(13)
        house.leave()
        house.change("sale", 0, rows[0])
        # It was done of others since, the second one was not: what it reads is as it was.
        self.assertEqual(house.ask("a")[1:], ((0,), words_of(SORTED)[0]))

    def test_left_behind_all_turns(self):
        house = house_of(SORTED)
        house.begin("a")
        house.go(19)
        house.leave()
        self.assertEqual(house.ask("a")[1:], ((), 0))

    def test_passes_without_turns_are_done_as_soon_as_come_to(self):
        program = alone(SALE, ("keep", 0, 1), ("gather", 0, 1, ()), ("keep", 1, 1), outputs=(1, 2, 3))
        plan = ((), (((1, "step"),), ((2, "step"),), ((3, "step"),)))
        house = House()
        house.put("sale", ())
        house.lead("a", program, 100, plan=plan)
        house.begin("a")
        house.leave()
        # At the begin the first one was done, the second one has a turn.
        self.assertEqual(house.ask("a")[1:], ((1, 2), 0))
        house.lead("a", program, 100, plan=plan)
        house.begin("a")
        self.assertEqual(house.go(7), 1)
        house.leave()
        self.assertEqual(house.ask("a")[1:], ((), 0))
        house.lead("a", program, 100, plan=plan)
        self.assertEqual(house.ask("a")[1:], ((0, 1, 2), 0))

    def test_left_where_a_fault_was_met(self):
        program, plan = Faults.PROGRAM, Faults.PLAN
        house = House()
        house.put("sale", numbered(1, 0))
        house.put("names", numbered(4, 5))
        house.lead("a", program, 100, plan=plan)
        house.begin("a")
        house.go(3)
        house.leave()
        self.assertEqual(house.ask("a")[:2], (("fault", (3, 1, "nought")), (1,)))
        house.change("sale", 1, (5, 5))
        house.begin("a")
        house.go(1)
        house.leave()
        house.change("sale", 1, (0, 1))
        self.assertEqual(house.ask("a"), (("fault", (3, 1, "nought")), (), 0))

    def test_an_ask_of_which_nothing_is_done_again(self):
        house = house_of(MET)
        house.ask("a")
        house.begin("a")
        self.assertTrue(house.is_busy())
        self.assertEqual(house.go(10 ** 6), 0)
        house.fall()
        self.assertEqual(house.finish()[1:], ((), 0))

    def test_fallen_ahead_of_a_pass_and_behind_all(self):
        house, other = house_of(SORTED), house_of(SORTED)
        house.begin("a")
        house.fall()
        house.go(11)
        house.fall()
        house.go(100)
        house.fall()
        self.assertEqual(house.finish(), other.ask("a"))


class Many(unittest.TestCase):
    def some_deed(self, chance, house, program):
        """Change a table by chance, so that it stays fit."""
        node = chance.choice([node for node in program[0] if node[0] == "read"])
        record = tuple(chance.randint(low, high) for low, high in node[2])
        many = len(house.tables()[node[1]])
        deed = chance.random()
        if deed < 0.5 and many:
            house.change(node[1], chance.randrange(many), record)
        elif deed < 0.7 and many < node[3]:
            house.put_in(node[1], chance.randint(0, many), record)
        elif deed < 0.8 and many:
            house.strike(node[1], chance.randrange(many))
        else:
            house.put(node[1], busy_tables(chance, program)[node[1]])

    def test_asks_behind_deeds(self):
        again, outcomes = {}, set()
        for chance, led in many_led(101, 60):
            house, memory = house_of(led), Memory(*led.asked)
            kept = [house.tables()]
            for _ in range(7):
                told = house.ask("a")
                self.assertEqual(told, memory.ask(house.tables()), (led.asked, house.tables()))
                outcomes.add(told[0][0] if told[0][0] == "rows" else told[0][1][2])
                key = (len(told[1]) == 0, len(told[1]) == len(led.plan[1]))
                again[key] = again.get(key, 0) + 1
                for _ in range(chance.choice((0, 1, 1, 2))):
                    self.some_deed(chance, house, led.program)
                if chance.random() < 0.3:
                    for name, rows in chance.choice(kept).items():
                        house.put(name, rows)
                kept.append(house.tables())
        self.assertEqual(outcomes, {"rows", "nought", "great", "uneven"})
        self.assertTrue(all(many > 10 for many in again.values()) and len(again) >= 3, again)

    def test_left_and_fallen(self):
        for chance, led in many_led(102, 60):
            house, memory = house_of(led), Memory(*led.asked)
            for _ in range(6):
                house.begin("a")
                done = house.go(chance.choice((0, 1, 5, 40)))
                if chance.random() < 0.3:
                    house.fall()
                if chance.random() < 0.5:
                    house.leave()
                    # What was done by then shows in which passes are done again.
                    self.left(led, house, memory, done)
                else:
                    self.assertEqual(house.finish(), memory.ask(house.tables()))
                self.some_deed(chance, house, led.program)

    def left(self, led, house, memory, done):
        """The passes that so many turns of an ask came to the end of are done in the memory, too."""
        passes = 0
        while passes < len(led.plan[1]) and self.turns(led, house.tables(), memory, passes + 1) <= done:
            passes += 1
        memory.ask(house.tables(), passes)

    def turns(self, led, tables, memory, passes):
        """The turns of the passes that are done again among so many first ones."""
        trial = Memory(*led.asked)
        trial.last = dict(memory.last)
        _, again, _ = trial.ask(tables, passes)
        run = Run(*led.asked, tables)
        run.finish()
        return sum(run.turned()[number] for number in again)

    def test_words_of_a_whole_ask(self):
        for _, led in many_led(103, 40):
            counts = counts_of(led.program, led.tables)
            if counts is None:
                continue
            self.assertEqual(house_of(led).ask("a")[2], sum(plan_words(*led.asked, counts=counts)))

    def test_several_programs(self):
        chance = Random(104)
        for _ in range(12):
            house, memories = House(), {}
            programs = {}
            for name in ("ab", "aa", "b"):
                program = busy_program(chance) if chance.random() < 0.7 else some_program(chance)
                # Each reads tables of its own.
                nodes = tuple(("read", name + node[1], *node[2:]) if node[0] == "read" else node for node in program[0])
                programs[name] = (nodes, program[1])
                for table, rows in busy_tables(chance, programs[name]).items():
                    house.put(table, rows)
                room, plan = room_and_plan(chance, programs[name])
                house.lead(name, programs[name], room, plan=plan)
                memories[name] = Memory(programs[name], room, plan)
            for _ in range(12):
                name = chance.choice(sorted(programs))
                if chance.random() < 0.5:
                    self.assertEqual(house.ask(name), memories[name].ask(house.tables()))
                else:
                    self.some_deed(chance, house, programs[name])


if __name__ == "__main__":
    unittest.main()
