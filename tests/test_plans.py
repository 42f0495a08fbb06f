import unittest
from itertools import permutations
from random import Random

from rowhaul.errors import NoNumber, NoProgram
from rowhaul.plans.passes import fits, is_pass
from rowhaul.plans.plans import is_plan
from rowhaul.plans.ways import all_ways, hangs_on, parts_of
from tests.plans import ROOMS, some_plan
from tests.programs import many_programs
from tests.things import ANYTHING, NAMES, NO_WHOLE, SALE, Unchanged, alone, over_sale

UP = ((0, "up"),)
K1, CAST, MERGE, G3 = (1, "step"), (2, "cast"), (2, "merge"), (3, "step")
PROGRAM = over_sale(("keep", 0, ("less", ("at", 1), 3)), ("sort", 1, UP), ("gather", 2, 1, (("sum", 1), ("count",))))
HALF = ((2, "half"),)
PLAN = (HALF, ((K1, CAST), (MERGE, G3)))
LOOK = alone(SALE, NAMES, ("keep", 0, 1), ("keep", 1, 1), ("look", 2, 3, 0, 0), ("first", 4, 1))
K2, K3, F5 = (2, "step"), (3, "step"), (5, "step")
KEPT, BLOCKED, MET = [((4, word),) for word in ("kept", "blocked", "met")]
LEFT, RIGHT, MEET, LOOK_MERGE = (4, "left"), (4, "right"), (4, "meet"), (4, "merge")


class IsPlan(unittest.TestCase):
    def are(self, program, room, *told):
        for plan in told:
            self.assertIs(is_plan(program, room, plan), True, plan)

    def are_none(self, program, room, *told):
        for plan in told:
            self.assertIs(is_plan(program, room, plan), False, plan)

    def test_a_sort(self):
        self.are(PROGRAM, 100, PLAN, (HALF, ((K1,), (CAST,), (MERGE,), (G3,))), (HALF, ((K1, CAST), (MERGE,), (G3,))),
                 (HALF, ((K1,), (CAST,), (MERGE, G3))), (((2, "quarter"),), PLAN[1]))

    def test_a_look_each_way(self):
        self.are(LOOK, 400, (KEPT, ((K3,), (K2, (4, "step"), F5))), (KEPT, ((K2,), (K3,), ((4, "step"),), (F5,))),
                 (BLOCKED, ((K2,), (K3,), ((4, "block"), F5))), (BLOCKED, ((K3,), (K2,), ((4, "block"),), (F5,))),
                 (MET, ((K2, LEFT), (K3, RIGHT), (MEET,), (LOOK_MERGE, F5))),
                 (MET, ((K3,), (K2,), (RIGHT,), (LEFT,), (MEET,), (LOOK_MERGE,), (F5,))))
        self.are_none(LOOK, 400, (KEPT, ((K2, (4, "step"), F5), (K3,))), (KEPT, ((K2, K3, (4, "step"), F5),)),
                      (BLOCKED, ((K2, K3, (4, "block"), F5),)), (MET, ((K2, LEFT), (MEET,), (K3, RIGHT), (LOOK_MERGE, F5))))

    def test_both_and_beside(self):
        program = over_sale(("keep", 0, 1), ("both", 0, 1), ("beside", 0, 1))
        program = (program[0], (2, 3))
        step, both, beside = (1, "step"), (2, "both"), (3, "beside")
        self.are(program, 100, ((), ((step,), (both,), (beside,))), ((), ((step,), (beside,), (both,))))
        self.are_none(program, 100, ((), ((both,), (step,), (beside,))), ((), ((step, both), (beside,))))

    def test_nothing_to_do(self):
        self.are(alone(SALE), 0, ((), ()))
        self.are_none(alone(SALE), 0, ((), ((),)), ((), (((0, "step"),),)), ((), []), ([], ()), (), ((),), ((), (), ()))

    def test_a_pass_that_does_not_fit(self):
        self.are(PROGRAM, 24, PLAN)
        self.are_none(PROGRAM, 23, PLAN)
        self.are_none(PROGRAM, 0, PLAN)
        for room in range(80):
            fit = all(fits(PROGRAM, room, HALF, one) for one in PLAN[1])
            self.assertIs(is_plan(PROGRAM, room, PLAN), fit)

    def test_only_one_of_its_passes_does_not_fit(self):
        gather = (HALF, ((K1,), (CAST,), (MERGE,), (G3,)))
        self.are(PROGRAM, 31, PLAN)
        self.are_none(PROGRAM, 31, gather)
        self.are(PROGRAM, 32, gather)
        self.assertEqual([fits(PROGRAM, 31, HALF, one) for one in gather[1]], [True, True, True, False])

    def test_a_part_in_two_passes_in_none(self):
        self.are_none(PROGRAM, 100, (HALF, ((K1, CAST),)), (HALF, ((K1,), (CAST,), (MERGE,))), (HALF, ()),
                      (HALF, ((K1, CAST), (CAST,), (MERGE, G3))), (HALF, ((K1,), (K1, CAST), (MERGE, G3))),
                      (HALF, ((K1, CAST), (MERGE, G3), (G3,))), (HALF, ((K1, CAST), (K1, CAST), (MERGE, G3))),
                      (HALF, ((CAST,), (MERGE, G3))), (HALF, PLAN[1] * 2))

    def test_one_part_twice_in_the_place_of_another(self):
        program = over_sale(("keep", 0, 1), ("keep", 0, 1))
        program = (program[0], (1, 2))
        one, other = ((1, "step"),), ((2, "step"),)
        self.are(program, 100, ((), (one, other)), ((), (other, one)), ((), (one + other,)))
        self.are_none(program, 100, ((), (one, one)), ((), (other, other)), ((), (one + other, one)))

    def test_passes_exchanged(self):
        passes = ((K1,), (CAST,), (MERGE,), (G3,))
        for order in permutations(passes):
            self.assertIs(is_plan(PROGRAM, 100, (HALF, order)), order == passes)
        self.are_none(PROGRAM, 100, (HALF, PLAN[1][::-1]))

    def test_other_ways(self):
        self.are_none(PROGRAM, 100, (((2, "kept"),), PLAN[1]), ((), PLAN[1]), (((1, "half"),), PLAN[1]),
                      (HALF * 2, PLAN[1]), (((True, "half"),), PLAN[1]), (None, PLAN[1]), ([(2, "half")], PLAN[1]))
        self.are_none(LOOK, 400, (MET, ((K3,), (K2, (4, "step"), F5))), (KEPT, ((K2,), (K3,), ((4, "block"), F5))))

    def test_lists_in_the_place_of_tuples(self):
        self.are_none(PROGRAM, 100, [HALF, PLAN[1]], (list(HALF), PLAN[1]), (([2, "half"],), PLAN[1]), (HALF, list(PLAN[1])),
                      (HALF, ([K1, CAST], (MERGE, G3))), (HALF, (([1, "step"], CAST), (MERGE, G3))),
                      {0: HALF, 1: PLAN[1]}, (HALF, {(K1, CAST): 1, (MERGE, G3): 2}), (HALF, PLAN[1], ()), (HALF,))

    def test_what_is_no_pass(self):
        self.are_none(PROGRAM, 100, (HALF, ((CAST, K1), (MERGE, G3))), (HALF, ((K1, CAST, MERGE, G3),)),
                      (HALF, ((K1, CAST), (), (MERGE, G3))), (HALF, ((K1, CAST), None, (MERGE, G3))),
                      (HALF, (((True, "step"), CAST), (MERGE, G3))), (HALF, (K1, CAST, MERGE, G3)))

    def test_of_anything(self):
        for thing in ANYTHING:
            self.are_none(PROGRAM, 100, thing, (HALF, thing), (thing, PLAN[1]), (HALF, (thing,)),
                          (HALF, (thing, *PLAN[1])), (HALF, (*PLAN[1], thing)), (HALF, ((thing,),)), (thing, thing))

    def test_refused(self):
        for thing in ANYTHING:
            for room in (100, -1, None, thing):
                with self.assertRaises(NoProgram):
                    is_plan(thing, room, PLAN)
        for room in NO_WHOLE + [-1, 10 ** 6 + 1, 10 ** 59]:
            for plan in (PLAN, None):
                with self.assertRaises(NoNumber):
                    is_plan(PROGRAM, room, plan)
        self.are(PROGRAM, 10 ** 6, PLAN)

    def test_by_name_and_as_it_was(self):
        thing = [HALF, [[K1, CAST], [MERGE, G3]]]
        with Unchanged(self, PROGRAM, PLAN, thing):
            self.assertIs(is_plan(thing=PLAN, room=100, program=PROGRAM), True)
            self.assertIs(is_plan(PROGRAM, 100, thing), False)


class Many(unittest.TestCase):
    def test_against_the_words_of_the_document(self):
        chance = Random(11)
        found = {True: 0, False: 0}
        for program in many_programs(150, 11):
            room = chance.choice(ROOMS[6:])
            plan = some_plan(chance, program, room)
            if plan is None:
                continue
            for _ in range(6):
                ways, passes = plan
                passes = list(passes)
                if passes and chance.random() < 0.8:
                    at = chance.randrange(len(passes))
                    deed = chance.choice(("exchange", "out", "twice", "split", "join", "room"))
                    if deed == "exchange":
                        other = chance.randrange(len(passes))
                        passes[at], passes[other] = passes[other], passes[at]
                    elif deed == "out":
                        passes.pop(at)
                    elif deed == "twice":
                        passes.insert(at, passes[at])
                    elif deed == "split":
                        part = chance.choice(passes[at])
                        rest = tuple(one for one in passes[at] if one != part)
                        passes[at:at + 1] = [(part,), rest] if rest else [(part,)]
                    elif deed == "join":
                        passes[at:at + 2] = [tuple(sorted(sum(passes[at:at + 2], ())))]
                    else:
                        room = chance.choice(ROOMS)
                told = (ways, tuple(passes))
                self.assertIs(is_plan(program, room, told), slow_is_plan(program, room, told), (program, room, told))
                found[is_plan(program, room, told)] += 1
        self.assertGreater(min(found.values()), 150)


def slow_is_plan(program, room, plan):
    ways, passes = plan
    if ways not in all_ways(program) or not all(is_pass(program, ways, one) and fits(program, room, ways, one)
                                                for one in passes):
        return False
    at = {}
    for number, one in enumerate(passes):
        for part in one:
            if part in at:
                return False
            at[part] = number
    if sorted(at) != list(parts_of(program, ways)):
        return False
    return all(at[other] <= at[part] for part in at for other in hangs_on(program, ways, part))


if __name__ == "__main__":
    unittest.main()
