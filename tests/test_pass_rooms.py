import unittest

from rowhaul.errors import NoNumber, NoPass, NoProgram, NoWays
from rowhaul.plans.passes import fan_of, fits, fixed, quarters, size_of, told_room
from rowhaul.plans.ways import all_ways, parts_of
from rowhaul.programs.forms import most_of
from tests.programs import many_programs
from tests.things import ANYTHING, NO_WHOLE, Unchanged, alone

UP = ((0, "up"),)
NO_ROOMS = NO_WHOLE + [-1, -4, 10 ** 6 + 1, 10 ** 6 + 4, 10 ** 29, -(10 ** 59), 10 ** 59]
ROOMS = (0, 1, 3, 4, 5, 7, 8, 11, 12, 15, 16, 17, 23, 24, 40, 100, 999, 10 ** 6 - 1, 10 ** 6)


def read(width, most, name="sale"):
    return ("read", name, ((0, 9),) * width, most)


def sort_of(width, most):
    return alone(read(width, most), ("sort", 0, UP))


def look_of(width, most, other_width, other_most):
    return alone(read(width, most), read(other_width, other_most, "names"), ("look", 0, 1, 0, 0))


HALF, QUARTER = ((1, "half"),), ((1, "quarter"),)
KEPT, BLOCKED, MET = [((2, word),) for word in ("kept", "blocked", "met")]
CAST, MERGE = (1, "cast"), (1, "merge")
LEFT, RIGHT, MEET, LOOK_MERGE, BLOCK, KEEPS = [(2, word) for word in ("left", "right", "meet", "merge", "block", "step")]


class Sizes(unittest.TestCase):
    def test_casts(self):
        for width in (1, 2, 3, 4):
            program = sort_of(width, 60)
            for room in ROOMS:
                quarter = room // 4
                self.assertEqual(size_of(program, room, HALF, CAST), 2 * quarter // width)
                self.assertEqual(size_of(program, room, QUARTER, CAST), quarter // width)

    def test_the_share_is_of_whole_quarters(self):
        program = sort_of(3, 60)
        self.assertEqual(size_of(program, 23, HALF, CAST), 3)
        self.assertEqual(size_of(program, 24, HALF, CAST), 4)
        self.assertEqual(size_of(program, 27, HALF, CAST), 4)
        self.assertEqual(size_of(program, 28, HALF, CAST), 4)
        self.assertEqual(size_of(program, 11, QUARTER, CAST), 0)
        self.assertEqual(size_of(program, 12, QUARTER, CAST), 1)

    def test_looks(self):
        program = look_of(2, 60, 3, 20)
        for room in ROOMS:
            quarter = room // 4
            self.assertEqual(size_of(program, room, MET, LEFT), quarter // 3)
            self.assertEqual(size_of(program, room, MET, RIGHT), quarter // 3)
            self.assertEqual(size_of(program, room, MET, MEET), quarter // 6)
            self.assertEqual(size_of(program, room, BLOCKED, BLOCK), 2 * quarter // 5)
        program = look_of(4, 60, 1, 20)
        self.assertEqual(size_of(program, 100, MET, LEFT), 5)
        self.assertEqual(size_of(program, 100, MET, RIGHT), 25)
        self.assertEqual(size_of(program, 100, MET, MEET), 4)

    def test_none(self):
        program = alone(read(2, 60), read(2, 20, "names"), ("keep", 0, 1), ("sort", 2, UP), ("both", 0, 1),
                        ("beside", 0, 1), ("look", 0, 1, 0, 0), ("look", 0, 1, 0, 0), outputs=(3, 4, 5, 6, 7))
        ways = ((3, "half"), (6, "kept"), (7, "met"))
        for part in ((2, "step"), (3, "merge"), (4, "both"), (5, "beside"), (6, "step"), (7, "merge")):
            for room in ROOMS:
                self.assertIsNone(size_of(program, room, ways, part))


class Fans(unittest.TestCase):
    def test_a_merge(self):
        for width in (1, 2, 3, 4):
            for ways in (HALF, QUARTER):
                for room in ROOMS:
                    self.assertEqual(fan_of(sort_of(width, 60), room, ways, MERGE), (room // 4 // width,))

    def test_looks(self):
        program = look_of(2, 60, 4, 20)
        for room in ROOMS:
            quarter = room // 4
            self.assertEqual(fan_of(program, room, MET, LOOK_MERGE), (quarter // 7,))
            self.assertEqual(fan_of(program, room, MET, MEET), (quarter // 3, quarter // 4))

    def test_none(self):
        program = alone(read(2, 60), read(2, 20, "names"), ("keep", 0, 1), ("sort", 2, UP), ("both", 0, 1),
                        ("beside", 0, 1), ("look", 0, 1, 0, 0), ("look", 0, 1, 0, 0), outputs=(3, 4, 5, 6, 7))
        for ways in (((3, "half"), (6, "kept"), (7, "met")), ((3, "half"), (6, "blocked"), (7, "met"))):
            for part in parts_of(program, ways):
                if part[1] not in ("merge", "meet"):
                    self.assertEqual(fan_of(program, 100, ways, part), ())


class Fits(unittest.TestCase):
    def from_room(self, program, ways, one, least):
        """It fits from just this room on."""
        for room in list(range(max(0, least - 30), least + 60)) + [10 ** 6]:
            self.assertIs(fits(program, room, ways, one), room >= least, (room, one))

    def test_sizes_of_one_at_least(self):
        self.from_room(sort_of(3, 1), HALF, (CAST,), 12)
        self.from_room(sort_of(4, 4), QUARTER, (CAST,), 16)
        narrow = alone(read(1, 4), ("map", 0, (1, 2, 3, 4)), ("sort", 1, UP))
        self.from_room(narrow, ((2, "half"),), ((2, "cast"),), 16)
        wide = alone(read(1, 4), ("map", 0, (1, 2, 3, 4, 5, 6, 7)), ("map", 1, (1, 2, 3)), ("look", 2, 0, 0, 0))
        self.from_room(wide, ((3, "met"),), ((3, "left"),), 16)
        self.from_room(wide, ((3, "met"),), ((3, "right"),), 4)

    def test_sixteen_runs_at_the_most(self):
        self.from_room(sort_of(1, 64), QUARTER, (CAST,), 16)
        self.from_room(sort_of(1, 65), QUARTER, (CAST,), 20)
        self.from_room(sort_of(1, 80), QUARTER, (CAST,), 20)
        self.from_room(sort_of(1, 128), HALF, (CAST,), 16)
        self.from_room(sort_of(1, 129), HALF, (CAST,), 20)
        self.from_room(sort_of(1, 0), HALF, (CAST,), 4)
        self.from_room(look_of(1, 64, 1, 20), MET, (LEFT,), 32)
        self.from_room(look_of(1, 65, 1, 20), MET, (LEFT,), 40)
        self.from_room(look_of(1, 5, 1, 96), MET, (RIGHT,), 24)
        self.from_room(look_of(1, 5, 1, 97), MET, (RIGHT,), 28)

    def test_a_meets_own_cast(self):
        self.from_room(look_of(1, 64, 1, 64), MET, (MEET,), 4 * 4 * 3)
        self.from_room(look_of(1, 65, 1, 64), MET, (MEET,), 4 * 5 * 3)
        self.from_room(look_of(1, 64, 1, 96), MET, (MEET,), 48)
        self.from_room(look_of(1, 64, 1, 200), MET, (MEET,), 4 * 13)

    def test_a_blocks_size(self):
        self.from_room(look_of(4, 200, 4, 200), BLOCKED, (BLOCK,), 16)
        self.from_room(look_of(4, 200, 1, 200), BLOCKED, (BLOCK,), 12)
        self.from_room(look_of(1, 200, 4, 200), BLOCKED, (BLOCK,), 16)

    def test_fans_of_two_at_least(self):
        self.from_room(sort_of(4, 4), HALF, (MERGE,), 32)
        self.from_room(sort_of(3, 4), QUARTER, (MERGE,), 24)
        self.from_room(look_of(1, 1, 4, 1), MET, (LOOK_MERGE,), 48)
        self.from_room(look_of(4, 1, 1, 1), MET, (MEET,), 40)
        self.from_room(look_of(1, 1, 4, 1), MET, (MEET,), 4 * (4 + 5 + 1))

    def test_sizes_of_those_whose_runs_are_read_in_another_pass(self):
        self.from_room(sort_of(1, 64), QUARTER, (MERGE,), 16)
        self.from_room(sort_of(1, 65), QUARTER, (MERGE,), 20)
        self.from_room(sort_of(1, 129), HALF, (MERGE,), 20)
        self.from_room(look_of(1, 65, 1, 5), MET, (LOOK_MERGE,), 4 * 5 * 3)
        self.from_room(look_of(1, 1, 1, 97), MET, (MEET,), 28)
        self.from_room(look_of(1, 1, 1, 97), MET, (LOOK_MERGE,), 24)
        self.from_room(look_of(3, 97, 1, 1), MET, (MEET,), 4 * 7 * 5)

    def test_a_merge_does_not_ask_how_others_cast(self):
        program = alone(read(1, 5), ("sort", 0, UP), ("sort", 1, ((0, "down"),)))
        self.from_room(program, ((1, "half"), (2, "half")), ((2, "merge"),), 8)
        self.from_room(program, ((1, "half"), (2, "quarter")), ((1, "merge"), (2, "cast")), 8)

    def test_three_quarters_of_shares(self):
        program = alone(read(1, 5), ("sort", 0, UP), ("sort", 0, ((0, "down"),)), ("look", 0, 0, 0, 0),
                        outputs=(1, 2, 3))
        casts = ((1, "cast"), (2, "cast"))
        self.assertIs(fits(program, 1000, ((1, "half"), (2, "quarter"), (3, "met")), casts), True)
        self.assertIs(fits(program, 1000, ((1, "half"), (2, "half"), (3, "met")), casts), False)
        self.assertIs(fits(program, 10 ** 6, ((1, "half"), (2, "half"), (3, "met")), casts), False)
        ways = ((1, "half"), (2, "quarter"), (3, "met"))
        self.assertIs(fits(program, 1000, ways, casts + ((3, "left"),)), False)
        self.assertIs(fits(program, 1000, ways, casts[:1] + ((3, "left"),)), True)
        self.assertIs(fits(program, 1000, ways, casts[:1] + ((3, "left"), (3, "right"))), False)
        ways = ((1, "quarter"), (2, "quarter"), (3, "met"))
        self.assertIs(fits(program, 1000, ways, casts + ((3, "left"),)), True)
        self.assertIs(fits(program, 1000, ways, casts + ((3, "left"), (3, "right"))), False)
        self.assertIs(fits(program, 1000, ways, ((3, "meet"),)), True)

    def test_a_quarter_of_fixed_words(self):
        program = alone(read(2, 5), ("carry", 0, 1, 0), ("gather", 1, 1, ()))
        one = ((1, "step"), (2, "step"))
        self.assertEqual(fixed(program, (), one), 1 + 1 + 2 + 3 + 1)
        self.from_room(program, (), one, 32)
        self.from_room(alone(read(3, 5), ("keep", 0, 1)), (), ((1, "step"),), 12)
        program = look_of(2, 5, 3, 20)
        self.from_room(program, KEPT, (KEEPS,), 4 * (60 + 2 + 5))

    def test_a_merge_alone_has_no_fixed_words(self):
        self.assertEqual(fixed(sort_of(4, 4), HALF, (MERGE,)), 0)

    def test_both_at_once(self):
        self.from_room(alone(read(4, 5), ("map", 0, (1,)), ("sort", 1, UP)), ((2, "half"),), ((1, "step"), (2, "cast")),
                       20)

    def test_against_the_words_of_the_document(self):
        for program in many_programs(60, 4):
            for ways in all_ways(program)[:3]:
                for part in parts_of(program, ways):
                    for room in (0, 8, 40, 100, 400, 3000):
                        self.assertIs(fits(program, room, ways, (part,)), slow_fits(program, room, ways, part))


def slow_fits(program, room, ways, part):
    """A pass of one part fits, said once more."""
    nodes, _ = program

    def size_fits(one):
        size = size_of(program, room, ways, one)
        node = nodes[one[0]]
        come = {"cast": node[1], "left": node[1], "right": node[2] if len(node) > 2 else None, "meet": one[0]}
        if size is None:
            return True
        if one[1] == "block":
            return size >= 1
        return size >= 1 and -(-most_of(program, come[one[1]]) // size) <= 16

    k, word = part
    reads = {"merge": ("cast",) if nodes[k][0] == "sort" else ("meet",), "meet": ("left", "right")}.get(word, ())
    fan = fan_of(program, room, ways, part)
    return (all(size_fits(one) for one in [part] + [(k, other) for other in reads]) and all(many >= 2 for many in fan)
            and quarters(program, ways, (part,)) <= 3 and fixed(program, ways, (part,)) <= room // 4)


class ToldRoom(unittest.TestCase):
    def test_quarters_and_fixed(self):
        program = sort_of(3, 60)
        self.assertEqual(told_room(program, 100, HALF, (CAST,)), 50 + 3)
        self.assertEqual(told_room(program, 103, HALF, (CAST,)), 50 + 3)
        self.assertEqual(told_room(program, 104, HALF, (CAST,)), 52 + 3)
        self.assertEqual(told_room(program, 100, QUARTER, (CAST,)), 25 + 3)
        self.assertEqual(told_room(program, 100, HALF, (MERGE,)), 25)
        self.assertEqual(told_room(look_of(2, 5, 3, 5), 99, MET, (MEET,)), 72 + 3 + 5 + 1)
        self.assertEqual(told_room(look_of(2, 5, 3, 5), 99, BLOCKED, (BLOCK,)), 48 + 3)
        self.assertEqual(told_room(look_of(2, 5, 3, 5), 99, KEPT, (KEEPS,)), 15 + 2 + 5)

    def test_of_a_pass_that_does_not_fit(self):
        self.assertEqual(told_room(sort_of(3, 60), 0, HALF, (CAST,)), 3)
        self.assertEqual(told_room(look_of(2, 5, 3, 5), 3, KEPT, (KEEPS,)), 22)

    def test_no_more_than_the_room_where_it_fits(self):
        for program in many_programs(60, 4):
            for ways in all_ways(program)[:3]:
                for part in parts_of(program, ways):
                    for room in (8, 41, 102, 403, 3000):
                        if fits(program, room, ways, (part,)):
                            self.assertLessEqual(told_room(program, room, ways, (part,)), room)


class Refused(unittest.TestCase):
    PROGRAM = sort_of(2, 20)

    def test_of_passes(self):
        for ask in (fits, told_room):
            for thing in ANYTHING + [(MERGE, CAST), (CAST, MERGE), CAST, [CAST], ((0, "step"),)]:
                with self.assertRaises(NoPass):
                    ask(self.PROGRAM, 100, HALF, thing)
                with self.assertRaises(NoPass):
                    ask(self.PROGRAM, 0, HALF, thing)
            self.in_order(ask, (CAST,))

    def test_of_parts(self):
        for ask in (size_of, fan_of):
            for thing in ANYTHING + [(0, "step"), (1, "step"), (2, "cast"), (CAST,), [1, "cast"], (True, "cast")]:
                with self.assertRaises(NoPass):
                    ask(self.PROGRAM, 100, HALF, thing)
                with self.assertRaises(NoPass):
                    ask(self.PROGRAM, 0, HALF, thing)
            self.in_order(ask, CAST)

    def in_order(self, ask, told):
        for thing in ANYTHING:
            with self.assertRaises(NoWays):
                ask(self.PROGRAM, 100, thing, told)
            with self.assertRaises(NoWays):
                ask(self.PROGRAM, 100, thing, thing)
            for other in (100, 0, -1, thing):
                with self.assertRaises(NoProgram):
                    ask(thing, other, HALF, told)
                with self.assertRaises(NoProgram):
                    ask(thing, other, thing, thing)
        for room in NO_ROOMS:
            with self.assertRaises(NoNumber):
                ask(self.PROGRAM, room, HALF, told)
            with self.assertRaises(NoNumber):
                ask(self.PROGRAM, room, None, None)

    def test_by_name_and_as_it_was(self):
        with Unchanged(self, self.PROGRAM, HALF):
            self.assertIs(fits(one=(CAST,), ways=HALF, room=100, program=self.PROGRAM), True)
            self.assertEqual(told_room(one=(CAST,), ways=HALF, room=100, program=self.PROGRAM), 52)
            self.assertEqual(size_of(part=CAST, ways=HALF, room=100, program=self.PROGRAM), 25)
            self.assertEqual(fan_of(part=MERGE, ways=HALF, room=100, program=self.PROGRAM), (12,))


if __name__ == "__main__":
    unittest.main()
