import unittest
from itertools import product
from random import Random

from rowhaul.errors import Over
from rowhaul.machine.casts import cast_sorted
from rowhaul.machine.drivers import Driver
from rowhaul.machine.room import Room
from rowhaul.machine.store import Store
from rowhaul.merges.trees import runs_of
from rowhaul.plans.passes import fan_of, size_of
from rowhaul.programs.plain import rows_of
from tests.things import Unchanged, alone

UP = ((0, "up"),)
ONE = ("read", "one", ((0, 9), (0, 99)), 60)
OTHER = ("read", "other", ((0, 9), (0, 99)), 60)
WIDE = ("read", "wide", ((0, 9), (0, 99), (0, 9)), 60)
NODE_0, NODE_1 = ("node", 0), ("node", 1)


def numbered(*words):
    """Records of a first word and their number."""
    return tuple((word, number) for number, word in enumerate(words))


def walked(test, told, files, most=10 ** 6):
    """Each turn: what is told ahead of it, what is taken, and what is told within the taking; and at the end.

    At each turn another driver, made anew out of what is told, does the next turn, too.
    """
    program, room, ways, driver = told
    store, held = Store(files), Room(most)
    one = Driver(program, room, ways, driver, store, held)
    turns = []
    while not one.is_over():
        ahead = (one.phase(), one.reads(), held.holders())
        test.assertEqual(one.fault(), ())
        test.assertEqual((one.phase(), one.reads(), held.holders()), ahead)
        copied, room_again = Store(store.files()), Room(most)
        for holder, records in held.holders():
            room_again.hold(holder, records)
        again = Driver(program, room, ways, driver, copied, room_again, phase=one.phase(), reads=one.reads())
        test.assertEqual((again.is_over(), again.phase(), again.reads(), again.fault()), (False, ahead[0], ahead[1], ()))
        taken, taken_again = [], []
        moved = store.moved()
        test.assertIsNone(one.turn(lambda record: taken.append(
            (record, one.reads(), held.holders(), store.moved() - moved))))
        again.turn(lambda record: taken_again.append((record, again.reads(), room_again.holders(), copied.moved())))
        test.assertEqual(taken, taken_again)
        test.assertEqual(store.moved() - moved, copied.moved())
        test.assertEqual((one.is_over(), one.phase(), one.reads(), one.fault(), held.holders()),
                         (again.is_over(), again.phase(), again.reads(), again.fault(), room_again.holders()))
        test.assertLessEqual(len(taken), 1)
        turns.append((ahead, taken[0] if taken else None, store.moved() - moved))
    test.assertEqual(one.phase(), ("end",))
    with test.assertRaises(Over):
        one.turn([].append)
    again = Driver(program, room, ways, driver, Store(store.files()), held, phase=("end",), reads=one.reads())
    test.assertEqual((again.is_over(), again.phase(), again.reads(), again.fault()),
                     (True, ("end",), one.reads(), one.fault()))
    with test.assertRaises(Over):
        again.turn([].append)
    test.assertEqual(held.holders(), ())
    return turns, one


def taken_of(turns):
    return [taken[0] for _, taken, _ in turns if taken is not None]


class File(unittest.TestCase):
    def walk(self, rows, files=None):
        program = alone(ONE, ("keep", 0, 1))
        return walked(self, (program, 40, (), ("file", 0)), ((NODE_0, rows),) if files is None else files)

    def test_no_record(self):
        for files in (((NODE_0, ()),), (), ((NODE_1, ((1, 2),)),)):
            turns, driver = self.walk((), files)
            self.assertEqual((turns, driver.reads(), driver.fault()), ([], ((0, NODE_0, 0),), ()))

    def test_one_and_many(self):
        for rows in (numbered(3), numbered(3, 1, 2, 1, 1)):
            turns, driver = self.walk(rows)
            self.assertEqual(driver.reads(), ((0, NODE_0, len(rows)),))
            for number, (ahead, taken, moved) in enumerate(turns):
                self.assertEqual(ahead, (("drive",), ((0, NODE_0, number),), ()))
                held = ((("way", (0, "file")), (rows[number],)),)
                self.assertEqual(taken, (rows[number], ((0, NODE_0, number + 1),), held, 2))
                self.assertEqual(moved, 2)
            self.assertEqual(len(turns), len(rows))

    def test_any_node(self):
        program = alone(ONE, ("keep", 0, 1), ("sort", 1, UP), ("first", 2, 9))
        for v in range(4):
            rows = numbered(7, 8)
            turns, driver = walked(self, (program, 40, ((2, "half"),), ("file", v)), ((("node", v), rows),))
            self.assertEqual(taken_of(turns), list(rows))
            self.assertEqual(driver.reads(), ((0, ("node", v), 2),))
            self.assertEqual(turns[0][1][2], ((("way", (v, "file")), (rows[0],)),))

    def test_what_take_does_is_seen(self):
        program = alone(ONE, ("keep", 0, 1))
        store = Store(((NODE_0, numbered(1, 2)),))
        driver = Driver(program, 40, (), ("file", 0), store, Room(40))
        driver.turn(lambda record: store.write(NODE_1, record))
        self.assertEqual(store.files(), ((NODE_0, numbered(1, 2)), (NODE_1, ((1, 0),))))


class Both(unittest.TestCase):
    PROGRAM = alone(ONE, OTHER, ("both", 0, 1))

    def test_each_count(self):
        for one, other in product((0, 1, 3), repeat=2):
            left, right = numbered(*[5] * one), numbered(*[6] * other)
            turns, driver = walked(self, (self.PROGRAM, 40, (), (2, "both")), ((NODE_0, left), (NODE_1, right)))
            self.assertEqual(taken_of(turns), list(left + right))
            self.assertEqual(driver.reads(), ((0, NODE_0, one), (1, NODE_1, other)))
            for number, (ahead, taken, moved) in enumerate(turns):
                reads = ((0, NODE_0, min(number, one)), (1, NODE_1, max(0, number - one)))
                self.assertEqual(ahead, (("drive",), reads, ()))
                self.assertEqual(taken[2], ((("way", (2, "both")), (taken[0],)),))
                self.assertEqual((taken[3], moved), (2, 2))

    def test_files_that_are_not_there(self):
        turns, driver = walked(self, (self.PROGRAM, 40, (), (2, "both")), ((NODE_1, numbered(4)),))
        self.assertEqual(taken_of(turns), [(4, 0)])
        self.assertEqual(driver.reads(), ((0, NODE_0, 0), (1, NODE_1, 1)))
        turns, driver = walked(self, (self.PROGRAM, 40, (), (2, "both")), ())
        self.assertEqual((turns, driver.reads()), ([], ((0, NODE_0, 0), (1, NODE_1, 0))))

    def test_j_ahead_of_i(self):
        program = alone(ONE, OTHER, ("both", 1, 0))
        turns, driver = walked(self, (program, 40, (), (2, "both")), ((NODE_0, numbered(1)), (NODE_1, numbered(2, 3))))
        self.assertEqual(taken_of(turns), [(2, 0), (3, 1), (1, 0)])
        self.assertEqual(turns[1][0][1], ((0, NODE_1, 1), (1, NODE_0, 0)))

    def test_i_the_same_as_j(self):
        program = alone(ONE, ("both", 0, 0))
        turns, driver = walked(self, (program, 40, (), (1, "both")), ((NODE_0, numbered(7, 8)),))
        self.assertEqual(taken_of(turns), [(7, 0), (8, 1), (7, 0), (8, 1)])
        self.assertEqual([ahead[1] for ahead, _, _ in turns],
                         [((0, NODE_0, one), (1, NODE_0, other)) for one, other in ((0, 0), (1, 0), (2, 0), (2, 1))])


class Beside(unittest.TestCase):
    PROGRAM = alone(ONE, WIDE, ("beside", 0, 1))

    def test_even(self):
        for many in (0, 1, 4):
            left, right = numbered(*[5] * many), tuple((6, k, 0) for k in range(many))
            turns, driver = walked(self, (self.PROGRAM, 40, (), (2, "beside")), ((NODE_0, left), (NODE_1, right)))
            self.assertEqual(taken_of(turns), [one + other for one, other in zip(left, right)])
            self.assertEqual((driver.reads(), driver.fault()), (((0, NODE_0, many), (1, NODE_1, many)), ()))
            for number, (ahead, taken, moved) in enumerate(turns):
                self.assertEqual(ahead, (("drive",), ((0, NODE_0, number), (1, NODE_1, number)), ()))
                self.assertEqual(taken[1:], (((0, NODE_0, number + 1), (1, NODE_1, number + 1)),
                                             ((("way", (2, "beside")), (taken[0],)),), 5))
                self.assertEqual(moved, 5)

    def test_uneven(self):
        for one, other in ((0, 1), (1, 0), (3, 2), (2, 3), (5, 1)):
            files = ((NODE_0, numbered(*[5] * one)), (NODE_1, ((6, 0, 0),) * other))
            for told in (files, tuple(pair for pair in files if pair[1])):
                turns, driver = walked(self, (self.PROGRAM, 40, (), (2, "beside")), told)
                self.assertEqual((turns, driver.fault(), driver.phase()), ([], (2, min(one, other), "uneven"), ("end",)))
                self.assertEqual(driver.reads(), ((0, NODE_0, 0), (1, NODE_1, 0)))

    def test_i_the_same_as_j(self):
        program = alone(ONE, ("beside", 0, 0))
        turns, _ = walked(self, (program, 40, (), (1, "beside")), ((NODE_0, numbered(7, 8)),))
        self.assertEqual(taken_of(turns), [(7, 0, 7, 0), (8, 1, 8, 1)])


def runs_as_cast(program, part, rows, size):
    """The files of the runs that a part casts of some rows."""
    told = []
    first = 0
    for number, many in enumerate(runs_of(len(rows), size)):
        told.append((("run", part, number), cast_sorted(program, part, rows[first:first + many])))
        first += many
    return tuple(told)


class Merge(unittest.TestCase):
    PROGRAM = alone(ONE, ("sort", 0, UP))
    PART = (1, "merge")
    RUNS = (((1, 0), (3, 1), (5, 2)), ((1, 10), (2, 11)), ((0, 20),))
    NAMES = tuple(("run", (1, "cast"), n) for n in range(3))
    HEADS = ("heads", (1, "cast"))

    def walk(self, runs):
        return walked(self, (self.PROGRAM, 100, ((1, "half"),), self.PART), tuple(zip(self.NAMES, runs)))

    def test_no_run_and_one_run(self):
        turns, driver = self.walk(())
        self.assertEqual((turns, driver.reads()), ([], ()))
        turns, driver = self.walk((((3, 0),),))
        self.assertEqual(turns, [((("drive",), ((0, self.NAMES[0], 0),), ()),
                                  ((3, 0), ((0, self.NAMES[0], 1),), ((self.HEADS, ((3, 0),)),), 2), 2)])

    def test_turn_by_turn(self):
        turns, driver = self.walk(self.RUNS)
        self.assertEqual(taken_of(turns), [(0, 20), (1, 0), (1, 10), (2, 11), (3, 1), (5, 2)])
        heads = [((1, 0), (1, 10), (0, 20)), ((1, 0), (1, 10), ()), ((3, 1), (1, 10), ()), ((3, 1), (2, 11), ()),
                 ((3, 1), (), ()), ((5, 2), (), ())]
        reads = [(1, 1, 1), (1, 1, 1), (2, 1, 1), (2, 2, 1), (2, 2, 1), (3, 2, 1)]
        for number, (ahead, taken, moved) in enumerate(turns):
            many = reads[number] if number else (0, 0, 0)
            self.assertEqual(ahead[:2], (("drive",), tuple((0, name, n) for name, n in zip(self.NAMES, many))))
            self.assertEqual(ahead[2], ((self.HEADS, heads[number]),) if number else ())
            self.assertEqual(taken[1], tuple((0, name, n) for name, n in zip(self.NAMES, reads[number])))
            self.assertEqual(taken[2], ((self.HEADS, heads[number]),))
        self.assertEqual([taken[3] for _, taken, _ in turns], [6, 0, 0, 0, 0, 0])
        self.assertEqual([moved for _, _, moved in turns], [6, 2, 2, 0, 2, 0])
        self.assertEqual(driver.reads(), tuple((0, name, n) for name, n in zip(self.NAMES, (3, 2, 1))))

    def test_the_next_is_read_behind_what_is_taken(self):
        store, held = Store(((self.NAMES[0], ((1, 0), (2, 0))),)), Room(100)
        driver = Driver(self.PROGRAM, 100, ((1, "half"),), self.PART, store, held)
        driver.turn(lambda record: self.assertEqual((store.moved(), held.words()), (2, 2)))
        self.assertEqual((store.moved(), held.holders()), (4, ((self.HEADS, ((2, 0),)),)))

    def test_by_the_runs_that_stand(self):
        """A room in which two can be read at a time: of three runs of 2, 2, 1 the last two are one."""
        names = (("ahead", (1, "cast"), 0),) + self.NAMES
        files = tuple(zip(names, (((1, 1), (2, 2), (9, 9)), ((0, 0), (5, 5)), ((1, 1), (9, 9)), ((2, 2),))))
        turns, driver = walked(self, (self.PROGRAM, 16, ((1, "half"),), self.PART), files)
        self.assertEqual(taken_of(turns), [(0, 0), (1, 1), (2, 2), (5, 5), (9, 9)])
        self.assertEqual(driver.reads(), ((0, ("ahead", (1, "cast"), 0), 3), (0, ("run", (1, "cast"), 0), 2)))
        self.assertEqual(turns[1][0][2], ((self.HEADS, ((5, 5), (1, 1))),))
        self.assertEqual(fan_of(self.PROGRAM, 16, ((1, "half"),), self.PART), (2,))

    def test_of_a_look_without_the_number(self):
        program = alone(ONE, OTHER, ("look", 0, 1, 0, 0))
        names = tuple(("run", (2, "meet"), n) for n in range(2))
        files = tuple(zip(names, (((5, 5, 5, 5, 2),), ((4, 4, 4, 4, 1), (3, 3, 3, 3, 3)))))
        turns, driver = walked(self, (program, 100, ((2, "met"),), (2, "merge")), files)
        self.assertEqual(taken_of(turns), [(4, 4, 4, 4), (5, 5, 5, 5), (3, 3, 3, 3)])
        self.assertEqual(turns[0][1][2], ((("heads", (2, "meet")), ((5, 5, 5, 5, 2), (4, 4, 4, 4, 1))),))
        self.assertEqual(turns[0][2], 15)

    def test_other_files_are_no_runs_of_it(self):
        files = ((("run", (0, "cast"), 0), ((9, 9),)), (("run", (1, "cast"), 0), ((1, 1),)),
                 (("run", (1, "left"), 0), ((8, 8),)))
        turns, driver = walked(self, (self.PROGRAM, 100, ((1, "half"),), self.PART), files)
        self.assertEqual(taken_of(turns), [(1, 1)])

    def test_as_plain_sorts(self):
        chance = Random(2)
        for _ in range(30):
            rows = tuple((chance.randint(0, 3), k) for k in range(chance.randint(0, 30)))
            size = chance.choice((4, 7, 30))
            files = runs_as_cast(self.PROGRAM, (1, "cast"), rows, size)
            turns, _ = walked(self, (self.PROGRAM, 8 * 16, ((1, "half"),), self.PART), files)
            self.assertEqual(tuple(taken_of(turns)), rows_of(self.PROGRAM, {"one": rows}, 1))


class Meet(unittest.TestCase):
    PROGRAM = alone(ONE, WIDE, ("look", 0, 1, 0, 2))
    PART = (2, "meet")
    LEFT, RIGHT = ("run", (2, "left"), 0), ("run", (2, "right"), 0)
    HEADS_L, HEADS_R = ("heads", (2, "left")), ("heads", (2, "right"))
    FOUND, WAY = ("found", (2, "meet")), ("way", (2, "meet"))

    def walk(self, files, room=400):
        return walked(self, (self.PROGRAM, room, ((2, "met"),), self.PART), files)

    def test_nothing(self):
        turns, driver = self.walk(())
        self.assertEqual((turns, driver.reads(), driver.is_over()), ([], (), True))

    def test_turn_by_turn(self):
        left = ((3, 30, 1), (3, 31, 4), (5, 50, 0))
        right = ((1, 1, 2), (2, 2, 3), (3, 3, 3), (4, 4, 9))
        turns, driver = self.walk(((self.LEFT, left), (self.RIGHT, right)))
        self.assertEqual([taken and taken[0] for _, taken, _ in turns],
                         [None, None, None, (3, 30, 2, 2, 3, 1), (3, 31, 2, 2, 3, 4), None, None])
        heads = [(left[0], right[0]), (left[0], right[1]), (left[0], right[2]), (left[0], right[3]), (left[1], right[3]),
                 (left[2], right[3]), ((), right[3])]
        found = [None, right[0], right[1], right[1], right[1], right[1], right[1]]
        reads = [(0, 0), (1, 2), (1, 3), (1, 4), (2, 4), (3, 4), (3, 4)]
        for number, (ahead, taken, moved) in enumerate(turns):
            phase, told, holders = ahead
            self.assertEqual((phase, told), (("drive",), ((0, self.LEFT, reads[number][0]), (0, self.RIGHT, reads[number][1]))))
            expected = []
            if number > 0:
                expected += [(self.FOUND, (found[number],))]
                expected += [(self.HEADS_L, (heads[number][0],))] if heads[number][0] else []
                expected += [(self.HEADS_R, (heads[number][1],))] if heads[number][1] else []
            self.assertEqual(holders, tuple(expected))
            if taken:
                self.assertEqual(taken[1], told)
                self.assertEqual(taken[2], tuple(sorted(expected + [(self.WAY, (taken[0],))])))
                self.assertEqual(taken[3], 0)
        self.assertEqual([moved for _, _, moved in turns], [9, 3, 3, 3, 3, 0, 0])

    def test_the_first_right_one_counts(self):
        turns, driver = self.walk(((self.LEFT, ((3, 0, 0), (3, 1, 1))), (self.RIGHT, ((7, 0, 3), (8, 0, 3), (9, 0, 3)))))
        self.assertEqual(taken_of(turns), [(3, 0, 7, 0, 3, 0), (3, 1, 7, 0, 3, 1)])
        self.assertEqual([dict(ahead[2]).get(self.FOUND) for ahead, _, _ in turns],
                         [None] + [((7, 0, 3),)] * 4)

    def test_elder_runs_first(self):
        names = [("run", (2, "right"), n) for n in range(2)]
        turns, driver = self.walk(((self.LEFT, ((3, 0, 0),)), (names[0], ((7, 0, 3),)), (names[1], ((1, 0, 3),))))
        self.assertEqual(taken_of(turns), [(3, 0, 7, 0, 3, 0)])

    def test_one_side_alone(self):
        turns, driver = self.walk(((self.LEFT, ((3, 0, 0), (4, 0, 1))),))
        self.assertEqual([taken for _, taken, _ in turns], [None, None])
        self.assertEqual(driver.reads(), ((0, self.LEFT, 2),))
        turns, driver = self.walk(((self.RIGHT, ((1, 0, 3), (2, 0, 4), (3, 0, 4))),))
        self.assertEqual([taken for _, taken, _ in turns], [None, None, None])
        self.assertEqual(driver.reads(), ((0, self.RIGHT, 3),))

    def test_both_sides_are_read_out(self):
        for left, right in (((9,), (1, 2, 3)), ((1,), (2, 3, 4)), ((1, 2, 3), (0,)), ((5, 6), (5,)), ((1, 2, 3), (9,))):
            turns, driver = self.walk(((self.LEFT, tuple((c, 0, 0) for c in left)),
                                       (self.RIGHT, tuple((0, 0, d) for d in right))))
            self.assertEqual(len(turns), len(left) + len(right))
            self.assertEqual(driver.reads(), ((0, self.LEFT, len(left)), (0, self.RIGHT, len(right))))
            self.assertEqual(sum(moved for _, _, moved in turns), 3 * len(turns))

    def test_by_the_runs_that_stand(self):
        """Two runs of each side can be read at a time: of 1, 1, 2 the first two are one, of 2, 1, 1 the last two."""
        lefts = ((("ahead", (2, "left"), 0), ((1, 0, 1), (4, 0, 0))), (("run", (2, "left"), 0), ((4, 0, 0),)),
                 (("run", (2, "left"), 1), ((1, 0, 1),)), (("run", (2, "left"), 2), ((2, 0, 3), (9, 0, 2))))
        rights = ((("ahead", (2, "right"), 0), ((5, 5, 2), (6, 6, 4))), (("run", (2, "right"), 0), ((7, 7, 1), (8, 8, 9))),
                  (("run", (2, "right"), 1), ((6, 6, 4),)), (("run", (2, "right"), 2), ((5, 5, 2),)))
        turns, driver = self.walk(lefts + rights, 24)
        self.assertEqual(fan_of(self.PROGRAM, 24, ((2, "met"),), self.PART), (2, 2))
        self.assertEqual(taken_of(turns), [(1, 0, 7, 7, 1, 1), (2, 0, 5, 5, 2, 3), (4, 0, 6, 6, 4, 0), (9, 0, 8, 8, 9, 2)])
        self.assertEqual(driver.reads(), ((0, ("ahead", (2, "left"), 0), 2), (0, ("ahead", (2, "right"), 0), 2),
                                          (0, ("run", (2, "left"), 2), 2), (0, ("run", (2, "right"), 0), 2)))

    def test_as_plain_looks(self):
        chance = Random(3)
        for _ in range(40):
            left = tuple((chance.randint(0, 6), k) for k in range(chance.randint(0, 20)))
            right = tuple((k // 9, k, chance.randint(0, 6)) for k in range(chance.randint(0, 20)))
            numbered_left = tuple(record + (number,) for number, record in enumerate(left))
            files = (runs_as_cast(self.PROGRAM, (2, "left"), numbered_left, chance.choice((3, 20)))
                     + runs_as_cast(self.PROGRAM, (2, "right"), right, chance.choice((3, 20))))
            turns, _ = walked(self, (self.PROGRAM, 400, ((2, "met"),), self.PART), files)
            told = sorted(taken_of(turns), key=lambda record: record[-1])
            self.assertEqual(tuple(record[:-1] for record in told),
                             rows_of(self.PROGRAM, {"one": left, "wide": right}, 2))


class Block(unittest.TestCase):
    PROGRAM = alone(ONE, WIDE, ("look", 0, 1, 0, 2))
    PART = (2, "block")
    HOLDER, WAY = ("block", (2, "block")), ("way", (2, "block"))

    def walk(self, left, right, room=20):
        """In a room of 20 a block holds 2."""
        files = tuple(pair for pair in ((NODE_0, left), (NODE_1, right)) if pair[1])
        return walked(self, (self.PROGRAM, room, ((2, "blocked"),), self.PART), files)

    def test_turn_by_turn(self):
        self.assertEqual(size_of(self.PROGRAM, 20, ((2, "blocked"),), self.PART), 2)
        a, b, c = (3, 0), (4, 1), (5, 2)
        x, y, z = (1, 1, 4), (2, 2, 5), (3, 3, 4)
        turns, driver = self.walk((a, b, c), (x, y, z))
        expected = [
            ("fill", 0, 0, (), 2), ("fill", 1, 0, (a,), 2),
            ("hold", 2, 0, (a, b), 3), ("hold", 2, 1, (a, b + x), 3), ("hold", 2, 2, (a, b + x), 3),
            ("hand", 2, 3, (a, b + x), 0), ("hand", 2, 3, (b + x,), 0),
            ("fill", 2, 0, (), 2),
            ("hold", 3, 0, (c,), 3), ("hold", 3, 1, (c,), 3), ("hold", 3, 2, (c + y,), 3),
            ("hand", 3, 3, (c + y,), 0)]
        self.assertEqual(len(turns), len(expected))
        for (ahead, taken, moved), (word, one, other, block, words) in zip(turns, expected):
            held = ((self.HOLDER, block),) if block else ()
            self.assertEqual(ahead, ((word,), ((0, NODE_0, one), (1, NODE_1, other)), held))
            self.assertEqual(moved, words)
        self.assertEqual([taken and taken[0] for _, taken, _ in turns],
                         [None] * 6 + [b + x] + [None] * 4 + [c + y])
        self.assertEqual(turns[6][1], (b + x, ((0, NODE_0, 2), (1, NODE_1, 3)), ((self.HOLDER, (b + x,)),), 0))
        self.assertEqual(driver.reads(), ((0, NODE_0, 3), (1, NODE_1, 0)))

    def test_no_rows(self):
        turns, driver = self.walk((), ((1, 1, 1),))
        self.assertEqual((turns, driver.reads()), ([], ((0, NODE_0, 0), (1, NODE_1, 0))))
        turns, driver = self.walk(numbered(1, 2, 3), ())
        self.assertEqual([ahead[0][0] for ahead, _, _ in turns], ["fill", "fill", "hand", "hand", "fill", "hand"])
        self.assertEqual([ahead[1][1] for ahead, _, _ in turns], [(1, NODE_1, 0)] * 6)
        self.assertEqual(taken_of(turns), [])
        self.assertEqual(driver.reads(), ((0, NODE_0, 3), (1, NODE_1, 0)))

    def test_just_full_blocks(self):
        turns, driver = self.walk(numbered(1, 2, 1, 2), ((0, 0, 2),))
        self.assertEqual([ahead[0][0] for ahead, _, _ in turns], ["fill", "fill", "hold", "hand", "hand"] * 2)
        self.assertEqual(taken_of(turns), [(2, 1, 0, 0, 2), (2, 3, 0, 0, 2)])

    def test_j_s_record_is_held_under_way(self):
        """A full block and j's record are just what the room has place for."""
        turns, driver = walked(self, (self.PROGRAM, 20, ((2, "blocked"),), self.PART),
                               ((NODE_0, numbered(1, 1)), (NODE_1, ((9, 9, 1), (8, 8, 1)))), 10 + 3)
        self.assertEqual(taken_of(turns), [(1, 0, 9, 9, 1), (1, 1, 9, 9, 1)])
        with self.assertRaises(OverflowError):
            walked(self, (self.PROGRAM, 20, ((2, "blocked"),), self.PART),
                   ((NODE_0, numbered(1, 1)), (NODE_1, ((9, 9, 1), (8, 8, 1)))), 10 + 2)

    def test_as_plain_looks(self):
        chance = Random(3)
        for _ in range(40):
            left = tuple((chance.randint(0, 6), k) for k in range(chance.randint(0, 12)))
            right = tuple((k, k, chance.randint(0, 6)) for k in range(chance.randint(0, 8)))
            turns, _ = self.walk(left, right, chance.choice((12, 20, 40, 400)))
            self.assertEqual(tuple(taken_of(turns)), rows_of(self.PROGRAM, {"one": left, "wide": right}, 2))

    def test_i_the_same_as_j(self):
        program = alone(ONE, ("look", 0, 0, 0, 0))
        turns, driver = walked(self, (program, 16, ((1, "blocked"),), (1, "block")), ((NODE_0, numbered(4, 5, 4)),))
        self.assertEqual(taken_of(turns), [(4, 0, 4, 0), (5, 1, 5, 1), (4, 2, 4, 0)])
        self.assertEqual(turns[3][0][1], ((0, NODE_0, 2), (1, NODE_0, 1)))


class Asked(unittest.TestCase):
    def test_by_name_and_as_it_was(self):
        program = alone(ONE, ("keep", 0, 1))
        store, held = Store(((NODE_0, numbered(1, 2, 3)),)), Room(40)
        ways, driver, reads = (), ("file", 0), ((0, NODE_0, 1),)
        with Unchanged(self, program, ways, driver, reads):
            one = Driver(reads=reads, phase=("drive",), held=held, store=store, driver=driver, ways=ways, room=40,
                         program=program)
            taken = []
            one.turn(take=taken.append)
        self.assertEqual(taken, [(2, 1)])
        self.assertEqual(one.reads(), ((0, NODE_0, 2),))

    def test_the_end_is_told(self):
        program = alone(ONE, ("keep", 0, 1))
        store = Store(((NODE_0, numbered(1, 2)),))
        one = Driver(program, 40, (), ("file", 0), store, Room(40), phase=("end",))
        self.assertEqual((one.is_over(), one.phase()), (True, ("end",)))
        with self.assertRaises(Over):
            one.turn([].append)
        self.assertEqual(store.moved(), 0)

    def test_it_works_in_what_is_handed_in(self):
        program = alone(ONE, ("sort", 0, UP))
        store, held = Store(((("run", (1, "cast"), 0), numbered(1, 2)),)), Room(40)
        one = Driver(program, 40, ((1, "half"),), (1, "merge"), store, held)
        held.hold(("step", (5, "step")), ((7, 8, 9),))
        one.turn([].append)
        self.assertEqual(held.holders(), ((("heads", (1, "cast")), ((2, 1),)), (("step", (5, "step")), ((7, 8, 9),))))
        self.assertEqual((store.moved(), held.peak()), (4, 5))


if __name__ == "__main__":
    unittest.main()
