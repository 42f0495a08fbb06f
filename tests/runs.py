"""Programs with plans and tables for the tests of runs, and what they share."""

from random import Random

from rowhaul.plans.passes import told_room
from rowhaul.plans.plans import is_plan
from tests.plans import busy_program, busy_tables, room_and_plan
from tests.programs import some_program
from tests.things import alone

UP = ((0, "up"),)
SALE = ("read", "sale", ((0, 9), (0, 99)), 60)
NAMES = ("read", "names", ((0, 9), (0, 99)), 20)
N0, N1 = ("node", 0), ("node", 1)
OVER = ("over", 6, ("at", 0))


def numbered(*words):
    return tuple((word, number) for number, word in enumerate(words))


class Led:
    """A program, a room, a plan there, tables."""

    def __init__(self, program, room, plan, tables):
        assert is_plan(program, room, plan)
        self.asked = (program, room, plan)
        self.program, self.room, self.plan, self.tables = program, room, plan, tables

    def told_rooms(self):
        return tuple(told_room(self.program, self.room, self.plan[0], one) for one in self.plan[1])


# A kept row is sorted and gathered: a cast holds 6 records, a merge reads 3 runs together.
SORTED = Led(alone(SALE, ("keep", 0, ("less", ("at", 0), 9)), ("sort", 1, UP), ("gather", 2, 1, (("sum", 1), ("count",)))),
             24, (((2, "half"),), (((1, "step"), (2, "cast")), ((2, "merge"), (3, "step")))),
             {"sale": numbered(3, 9, 1, 3, 0, 9, 1, 2, 2, 9)})
# Runs of 4, of which a merge reads 2 together: ahead of it pairs are merged.
NARROW = Led(alone(SALE, ("sort", 0, UP)), 16, (((1, "half"),), (((1, "cast"),), ((1, "merge"),))),
             {"sale": numbered(*[7 * k - 7 * k // 10 * 10 for k in range(22)])})
KEPT = Led(alone(SALE, NAMES, ("look", 0, 1, 0, 0), ("look", 0, 1, 1, 1), outputs=(2, 3)), 1000,
           (((2, "kept"), (3, "kept")), (((2, "step"), (3, "step")),)),
           {"sale": numbered(3, 4, 3, 5), "names": ((3, 1), (5, 2), (3, 0))})
BLOCKED = Led(alone(SALE, NAMES, ("look", 0, 1, 0, 0), ("first", 2, 2), outputs=(2, 3)), 16,
              (((2, "blocked"),), (((2, "block"), (3, "step")),)),
              {"sale": numbered(3, 4, 5), "names": numbered(5, 3)})
MET = Led(alone(SALE, NAMES, ("look", 0, 1, 0, 0)), 96,
          (((2, "met"),), (((2, "left"),), ((2, "right"),), ((2, "meet"),), ((2, "merge"),))),
          {"sale": numbered(*[k - k // 10 * 10 for k in range(30)]), "names": numbered(7, 5, 5, 3, 2, 7, 7, 1, 0)})
BOTH = Led(alone(SALE, NAMES, ("both", 0, 1), ("carry", 2, ("plus", ("was",), ("at", 1)), 50), outputs=(2, 3)), 100,
           ((), (((2, "both"), (3, "step")),)), {"sale": numbered(3, 4), "names": numbered(8, 9)})
BESIDE = Led(alone(SALE, NAMES, ("beside", 0, 1), ("gather", 2, 1, (("sum", 1),)), outputs=(2, 3)), 100,
             ((), (((2, "beside"), (3, "step")),)), {"sale": numbered(3, 3, 4), "names": numbered(8, 9, 1)})
# Left casts runs of 7, right of 9: of both more stand than can be read together.
BOTH_AHEAD = Led(alone(("read", "sale", ((0, 9), (0, 99), (0, 1), (0, 1)), 60),
                       ("read", "names", ((0, 9), (0, 99), (0, 1), (0, 1)), 120), ("look", 0, 1, 0, 0)), 148,
                 (((2, "met"),), (((2, "left"),), ((2, "right"),), ((2, "meet"),), ((2, "merge"),))),
                 {"sale": tuple((7 * k - 7 * k // 10 * 10, k, 0, 1) for k in range(60)),
                  "names": tuple((3 * k - 3 * k // 10 * 10, k - k // 100 * 100, 1, 0) for k in range(100))})
BY_HAND = (SORTED, NARROW, KEPT, BLOCKED, MET, BOTH, BESIDE)


def many_led(seed, many):
    """Led programs made by a chance that is always the same, each with the chance."""
    chance = Random(seed)
    for _ in range(many):
        program = busy_program(chance) if chance.random() < 0.7 else some_program(chance)
        room, plan = room_and_plan(chance, program)
        yield chance, Led(program, room, plan, busy_tables(chance, program))
