import unittest
from random import Random

from rowhaul.errors import NoNumber, NoPlan, NoProgram, NoText
from rowhaul.plans.plans import is_plan
from rowhaul.texts.plans import plan_text, read_plan
from tests.plans import room_and_plan
from tests.programs import many_programs
from tests.things import ANYTHING, NAMES, NO_WHOLE, SALE, Unchanged, alone, over_sale

UP = ((0, "up"),)
PROGRAM = over_sale(("keep", 0, ("less", ("at", 1), 0)), ("sort", 1, UP), ("gather", 2, 1, (("sum", 1), ("count",))))
PLAN = (((2, "half"),), (((1, "step"), (2, "cast")), ((2, "merge"), (3, "step"))))
TEXT = "ways 2:half\npass 1:step 2:cast\npass 2:merge 3:step"
NO_ROOMS = NO_WHOLE + [-1, 10 ** 6 + 1, 10 ** 59]


class Writing(unittest.TestCase):
    def test_the_example(self):
        self.assertEqual(plan_text(PROGRAM, 100, PLAN), TEXT)

    def test_no_ways(self):
        self.assertEqual(plan_text(alone(SALE), 0, ((), ())), "ways")
        self.assertEqual(plan_text(over_sale(("keep", 0, 1)), 100, ((), (((1, "step"),),))), "ways\npass 1:step")

    def test_each_word(self):
        program = alone(SALE, NAMES, ("look", 0, 1, 0, 0), ("both", 0, 0), ("beside", 0, 0), ("sort", 0, UP),
                        outputs=(2, 3, 4, 5))
        rest = (((3, "both"),), ((4, "beside"),), ((5, "cast"),), ((5, "merge"),))
        lines = "\npass 3:both\npass 4:beside\npass 5:cast\npass 5:merge"
        left, right, meet, merge = [(2, word) for word in ("left", "right", "meet", "merge")]
        for ways, passes, text in (
                (((2, "kept"), (5, "quarter")), (((2, "step"),),), "ways 2:kept 5:quarter\npass 2:step"),
                (((2, "blocked"), (5, "half")), (((2, "block"),),), "ways 2:blocked 5:half\npass 2:block"),
                (((2, "met"), (5, "half")), ((left,), (right,), (meet,), (merge,)),
                 "ways 2:met 5:half\npass 2:left\npass 2:right\npass 2:meet\npass 2:merge")):
            self.assertEqual(plan_text(program, 1000, (ways, passes + rest)), text + lines)
            self.assertEqual(read_plan(program, 1000, text + lines), (ways, passes + rest))

    def test_refused(self):
        for thing in ANYTHING + [list(PLAN), (PLAN[0], PLAN[1][:1]), (PLAN[0], PLAN[1][::-1])]:
            with self.assertRaises(NoPlan):
                plan_text(PROGRAM, 100, thing)
            with self.assertRaises(NoProgram):
                plan_text(thing, 100, PLAN)
            with self.assertRaises(NoProgram):
                plan_text(thing, thing, thing)
        for room in NO_ROOMS:
            for plan in (PLAN, None):
                with self.assertRaises(NoNumber):
                    plan_text(PROGRAM, room, plan)
        with self.assertRaises(NoPlan):
            plan_text(PROGRAM, 23, PLAN)
        self.assertEqual(plan_text(PROGRAM, 24, PLAN), TEXT)

    def test_by_name_and_as_it_was(self):
        with Unchanged(self, PROGRAM, PLAN):
            self.assertEqual(plan_text(plan=PLAN, room=100, program=PROGRAM), TEXT)
        self.assertEqual(read_plan(text=TEXT, room=100, program=PROGRAM), PLAN)


class Reading(unittest.TestCase):
    def refused(self, text, line):
        with self.assertRaises(NoText) as caught:
            read_plan(PROGRAM, 100, text)
        self.assertEqual(caught.exception.line, line, text)

    def no_plan(self, text, room=100, program=PROGRAM):
        with self.assertRaises(NoPlan):
            read_plan(program, room, text)

    def test_what_is_written(self):
        self.assertEqual(read_plan(PROGRAM, 100, TEXT), PLAN)
        self.assertEqual(read_plan(alone(SALE), 0, "ways"), ((), ()))
        chance = Random(41)
        for program in many_programs(120, 41):
            room, plan = room_and_plan(chance, program)
            told = read_plan(program, room, plan_text(program, room, plan))
            self.assertEqual(told, plan)
            self.assertEqual(repr(told), repr(plan))

    def test_the_first_line(self):
        rest = "\n" + TEXT.split("\n", 1)[1]
        for line in ("", "way 2:half", "Ways 2:half", "ways  2:half", "ways 2:half ", " ways 2:half", "ways ", "ways 2",
                     "ways :half", "ways 2:", "ways 2:HALF", "ways 2:step", "ways 2:halved", "ways 02:half", "ways +2:half",
                     "ways 2:half:half", "ways 2 half", "ways half:2", "ways 2: half", "ways 2:half,3:half", "pass 2:half",
                     "pass 1:step", "ways -0:half", "ways 1234567890123:half", "ways -1234567890123:half", "ways2:half",
                     "ways --2:half", "ways 2.0:half", "ways x:half", "ways 2:half\r", "ways \u0662:half", "ways -:half"):
            self.refused(line + rest, 0)
            self.refused(line, 0)
            self.refused(line + "\n", 0)

    def test_other_lines(self):
        lines = TEXT.split("\n")
        for line in ("", "pass", "pass ", "Pass 1:step", "pass  1:step", "pass 1:step ", " pass 1:step", "pass 1", "pass :step",
                     "pass 1:", "pass 1:Step", "pass 1:half", "pass 1:kept", "pass 1:file", "pass 01:step", "pass +1:step",
                     "pass -0:step", "pass 1:step:step", "pass 1 step", "pass step:1", "ways 2:half", "ways", "pass 1:step,",
                     "pass 1234567890123:step", "pass1:step", "pass 1:step  2:cast", "pass 1:step\t2:cast", "pass 1:step\r",
                     "pass 1:map", "pass 1:step 2:", "passes 1:step", "pass 1:sort"):
            for at in (1, 2):
                self.refused("\n".join(lines[:at] + [line] + lines[at + 1:]), at)
            self.refused(TEXT + "\n" + line, 3)

    def test_the_first_line_that_is_none(self):
        """Whatever stands in the others."""
        self.refused("ways 2:half\npass 1:step 2:cast\npass", 2)
        self.refused("ways 9:met 9:met\npass 7:block\npass", 2)
        self.refused("ways\npass 1:step 1:step 0:left\n\npass x", 2)
        self.refused("way\npass", 0)
        self.refused(TEXT.replace("\n", "\n\n"), 1)
        self.refused(TEXT.replace("\n", "\r\n"), 0)
        self.refused(TEXT.replace("\n", ";"), 0)
        self.refused(TEXT + "\n", 3)
        self.refused("", 0)
        self.refused("\n", 0)

    def test_of_its_form_but_no_plan(self):
        for text in ("ways", "ways 2:half", "ways 2:kept\npass 1:step 2:cast\npass 2:merge 3:step",
                     "ways 1:half\npass 1:step 2:cast\npass 2:merge 3:step", TEXT + "\npass 3:step",
                     "ways 2:half\npass 2:merge 3:step\npass 1:step 2:cast", "ways 2:half\npass 2:cast 1:step\npass 2:merge 3:step",
                     "ways 2:half\npass 1:step 2:cast", "ways 2:half 2:half\npass 1:step 2:cast\npass 2:merge 3:step",
                     "ways 2:half\npass 1:step 2:cast 2:merge 3:step", "ways 99:half\npass 99:step",
                     "ways 999999999999:half\npass -999999999999:step", "ways -2:half\npass -1:meet",
                     "ways 123456789012:met\npass 123456789012:meet", "ways 2:half\npass 1:step 1:step 2:cast\npass 2:merge 3:step"):
            self.no_plan(text)
        self.no_plan(TEXT, 23)
        self.no_plan("ways\npass 0:step", 100, alone(SALE))
        self.assertEqual(read_plan(PROGRAM, 24, TEXT), PLAN)

    def test_of_anything(self):
        for thing in ANYTHING + [TEXT.split("\n"), (TEXT,), PLAN]:
            self.refused(thing, 0)

    def test_refused_in_order(self):
        for thing in ANYTHING:
            for text in (TEXT, "", None):
                with self.assertRaises(NoProgram):
                    read_plan(thing, 100, text)
                with self.assertRaises(NoProgram):
                    read_plan(thing, -1, text)
        for room in NO_ROOMS:
            for text in (TEXT, "", None, "ways"):
                with self.assertRaises(NoNumber):
                    read_plan(PROGRAM, room, text)

    def test_texts_a_sign_aside(self):
        chance = Random(43)
        signs = " \n0123456789:-abcdefghijklmnopqrstuvwxyzW"
        seen = {"read": 0, "text": 0, "plan": 0}
        for program in many_programs(60, 42):
            room, plan = room_and_plan(chance, program)
            whole = plan_text(program, room, plan)
            for _ in range(20):
                at = chance.randrange(len(whole) + 1)
                text = chance.choice((whole[:at] + chance.choice(signs) + whole[at:], whole[:at] + whole[at + 1:],
                                      whole[:at] + chance.choice(signs) + whole[at + 1:]))
                try:
                    told = read_plan(program, room, text)
                except NoText as caught:
                    self.assertEqual(caught.line, first_wrong(text), text)
                    seen["text"] += 1
                except NoPlan:
                    self.assertIsNone(first_wrong(text), text)
                    seen["plan"] += 1
                else:
                    self.assertTrue(is_plan(program, room, told))
                    self.assertEqual(plan_text(program, room, told), text)
                    seen["read"] += 1
        self.assertGreater(min(seen.values()), 10)


def first_wrong(text):
    """The first line that isn't of its form, or None, by the words of lines."""
    words = {"ways": "half quarter kept blocked met".split(),
             "pass": "step cast merge left right meet block both beside".split()}
    for number, line in enumerate(text.split("\n")):
        first, *pairs = line.split(" ")
        if first != ("pass" if number else "ways") or (number and not pairs):
            return number
        for pair in pairs:
            k, *word = pair.split(":")
            figures = k[1:] if k[:1] == "-" else k
            if len(word) != 1 or word[0] not in words[first] or not figures or set(figures) - set("0123456789"):
                return number
            if str(int(k)) != k or len(figures) > 12:
                return number
    return None


if __name__ == "__main__":
    unittest.main()
