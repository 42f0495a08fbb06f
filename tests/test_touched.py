import unittest

from rowhaul.errors import NoNumber, NoPlan, NoProgram
from rowhaul.house.house import House
from rowhaul.plans.words import plan_words
from rowhaul.telling.touched import may_move, touched
from tests.plans import busy_tables
from tests.runs import BESIDE, BLOCKED, BOTH, BY_HAND, KEPT, MET, NAMES, SALE, SORTED, UP, many_led
from tests.things import ANYTHING, NO_WHOLE, Unchanged, alone

# Two tables, each mapped and sorted in passes of its own, then put together; one pass reads the first table again.
PROGRAM = alone(SALE, NAMES, ("map", 0, (("at", 0), 1)), ("sort", 2, UP), ("keep", 1, 1), ("both", 3, 4), ("keep", 0, 1),
                outputs=(5, 6))
PLAN = (((3, "half"),), (((4, "step"),), ((2, "step"), (3, "cast")), ((6, "step"),), ((3, "merge"),), ((5, "both"),)))
ASKED = (PROGRAM, 100, PLAN)


class Touched(unittest.TestCase):
    def test_by_hand(self):
        self.assertEqual(touched(*ASKED, ("sale",)), (1, 2, 3, 4))
        self.assertEqual(touched(*ASKED, ("names",)), (0, 4))
        for names in (("sale", "names"), ("names", "sale"), ("names", "other", "sale", "sale")):
            self.assertEqual(touched(*ASKED, names), (0, 1, 2, 3, 4))

    def test_of_none(self):
        for names in ((), ("other",), ("sal",), ("",), ("Sale", "sale "), ("read",)):
            self.assertEqual(touched(*ASKED, names), ())
            self.assertEqual(may_move(*ASKED, names), 0)

    def test_each_kind_of_driver(self):
        for led, sale, names in ((SORTED, (0, 1), ()), (KEPT, (0,), (0,)), (BLOCKED, (0,), (0,)), (MET, (0, 2, 3), (1, 2, 3)),
                                 (BOTH, (0,), (0,)), (BESIDE, (0,), (0,))):
            self.assertEqual(touched(*led.asked, ("sale",)), sale)
            self.assertEqual(touched(*led.asked, ("names",)), names)

    def test_a_table_that_is_not_needed(self):
        program = alone(SALE, NAMES, ("keep", 0, 1))
        plan = ((), (((2, "step"),),))
        self.assertEqual(touched(program, 100, plan, ("names",)), ())
        self.assertEqual(touched(program, 100, plan, ("sale",)), (0,))

    def test_a_kept_table_made_by_a_touched_pass(self):
        program = alone(SALE, NAMES, ("keep", 1, 1), ("look", 0, 2, 0, 0), ("keep", 0, 1), outputs=(3, 4))
        plan = (((3, "kept"),), (((2, "step"),), ((4, "step"),), ((3, "step"),)))
        self.assertEqual(touched(program, 1000, plan, ("names",)), (0, 2))
        self.assertEqual(touched(program, 1000, plan, ("sale",)), (1, 2))

    def test_may_move(self):
        for led in BY_HAND:
            words = plan_words(*led.asked)
            for names in (("sale",), ("names",), ("sale", "names"), ()):
                self.assertEqual(may_move(*led.asked, names), sum(words[number] for number in touched(*led.asked, names)))
        words = plan_words(*ASKED)
        self.assertEqual(may_move(*ASKED, ("names",)), words[0] + words[4])
        self.assertEqual(may_move(*ASKED, ("sale", "names")), sum(words))

    def test_an_ask_behind_deeds_does_no_other_pass(self):
        seen = 0
        for chance, led in many_led(121, 80):
            house = House()
            for name, rows in led.tables.items():
                house.put(name, rows)
            house.lead("a", *led.asked[:2], plan=led.plan)
            before = house.ask("a")
            for _ in range(4):
                names = tuple(name for name in led.tables if chance.random() < 0.5)
                for name in names:
                    house.put(name, busy_tables(chance, led.program)[name])
                told = house.ask("a")
                if before[0][0] == "rows" and told[0][0] == "rows":
                    self.assertTrue(set(told[1]) <= set(touched(*led.asked, names)), (led.asked, names))
                    self.assertLessEqual(told[2], may_move(*led.asked, names))
                    seen += len(told[1]) > 0
                before = told
        self.assertGreater(seen, 50)


class Refused(unittest.TestCase):
    def test_in_their_order(self):
        for ask in (touched, may_move):
            for thing in ANYTHING:
                with self.assertRaises(NoProgram):
                    ask(thing, None, None, ("sale",))
                with self.assertRaises(NoPlan):
                    ask(PROGRAM, 100, thing, ("sale",))
            for thing in NO_WHOLE + [-1, 10 ** 6 + 1]:
                with self.assertRaises(NoNumber):
                    ask(PROGRAM, thing, None, ("sale",))
            with self.assertRaises(NoPlan):
                ask(PROGRAM, 10, PLAN, ("sale",))

    def test_by_name_and_as_it_was(self):
        names = ("names",)
        with Unchanged(self, PROGRAM, PLAN, names):
            self.assertEqual(touched(names=names, plan=PLAN, room=100, program=PROGRAM), (0, 4))
            self.assertEqual(may_move(names=names, plan=PLAN, room=100, program=PROGRAM), may_move(*ASKED, names))


if __name__ == "__main__":
    unittest.main()
