import unittest

from rowhaul.errors import Over
from rowhaul.machine.passes import Doing
from rowhaul.machine.store import Store
from rowhaul.plans.passes import fan_of, size_of, told_room
from rowhaul.plans.plans import is_plan
from rowhaul.programs.plain import plain
from tests.plans import begun_store, files_behind, words_and_turns
from tests.things import Unchanged, alone

UP = ((0, "up"),)
SALE = ("read", "sale", ((0, 9), (0, 99)), 60)
NAMES = ("read", "names", ((0, 9), (0, 99)), 20)
N0, N1 = ("node", 0), ("node", 1)
END = (("end",), (), (), ())


def numbered(*words):
    return tuple((word, number) for number, word in enumerate(words))


def done(test, program, room, plan, number, store, **more):
    """A pass done to its end: what now tells ahead of each turn, and the pass.

    At each turn another one, made anew out of what is told, goes on alike.
    """
    test.assertTrue(is_plan(program, room, plan))
    told = told_room(program, room, plan[0], plan[1][number])
    doing = Doing(program, room, plan, number, store, **more)
    nows = []
    while not doing.is_over():
        now = doing.now()
        test.assertEqual(doing.now(), now)
        test.assertEqual(doing.turned(), len(nows))
        nows.append(now)
        copied = Store(store.files())
        again = Doing(program, room, plan, number, copied, now=now, **{**more, "own": doing.fault()})
        test.assertEqual((again.now(), again.fault(), again.turned(), again.words()), (now, doing.fault(), 0, 0))
        held = sum(len(record) for _, records in now[3] for record in records)
        test.assertEqual(again.peak(), held)
        test.assertLessEqual(held, doing.peak())
        before = doing.words()
        test.assertIsNone(doing.turn())
        again.turn()
        test.assertEqual((again.now(), again.fault(), again.turned(), again.words()),
                         (doing.now(), doing.fault(), 1, doing.words() - before))
        test.assertEqual(copied, store)
        test.assertLessEqual(again.peak(), doing.peak())
        test.assertLessEqual(doing.peak(), told)
    test.assertEqual(doing.now(), END)
    test.assertEqual(doing.turned(), len(nows))
    test.assertFalse([name for name in store.names() if name[0] == "ahead"])
    with test.assertRaises(Over):
        doing.turn()
    again = Doing(program, room, plan, number, store, now=END, **{**more, "own": doing.fault()})
    test.assertEqual((again.is_over(), again.now(), again.fault()), (True, END, doing.fault()))
    with test.assertRaises(Over):
        again.turn()
    return nows, doing


class ASort(unittest.TestCase):
    """Rows are kept, sorted, gathered, in a room in which a cast holds 6, a merge reads 3 runs."""

    PROGRAM = alone(SALE, ("keep", 0, ("less", ("at", 0), 9)), ("sort", 1, UP), ("gather", 2, 1, (("sum", 1), ("count",))))
    HALF = ((2, "half"),)
    K1, CAST, MERGE, G3 = (1, "step"), (2, "cast"), (2, "merge"), (3, "step")
    PLAN = (HALF, ((K1, CAST), (MERGE, G3)))
    ROWS = numbered(3, 9, 1, 3, 0, 9, 1, 2, 2, 9)
    STEP, HELD, WAY = ("step", G3), ("cast", CAST), ("way", G3)
    RUN_0, RUN_1 = ("run", CAST, 0), ("run", CAST, 1)

    def test_the_cast(self):
        self.assertEqual(size_of(self.PROGRAM, 24, self.HALF, self.CAST), 6)
        self.assertEqual(fan_of(self.PROGRAM, 24, self.HALF, self.MERGE), (3,))
        store = begun_store(self.PROGRAM, {"sale": self.ROWS})
        nows, doing = done(self, self.PROGRAM, 24, self.PLAN, 0, store)
        kept = [record for record in self.ROWS if record[0] < 9]
        came = [0, 1, 1, 2, 3, 4, 4, 5, 6, 7]
        for number in range(10):
            held = tuple(kept[:came[number]] if came[number] < 6 else kept[6:came[number]])
            self.assertEqual(nows[number], (("drive",), ((0, N0, number),), ((self.K1, number), (self.CAST, came[number])),
                                            ((self.HELD, held),) if held else ()))
        self.assertEqual(nows[10], (("close", self.CAST), (), ((self.K1, 10), (self.CAST, 7)),
                                    ((self.HELD, (kept[6],)),)))
        self.assertEqual(len(nows), 11)
        self.assertEqual(store.files(), ((N0, self.ROWS), (self.RUN_0, ((0, 4), (1, 2), (1, 6), (2, 7), (3, 0), (3, 3))),
                                         (self.RUN_1, ((2, 8),))))
        self.assertEqual((doing.words(), doing.turned(), doing.fault()), (20 + 14, 11, ()))
        self.assertEqual(doing.peak(), 2 + 12)

    def test_the_merge(self):
        store = Store(files_behind(self.PROGRAM, 24, self.PLAN, {"sale": self.ROWS}, 1))
        nows, doing = done(self, self.PROGRAM, 24, self.PLAN, 1, store)
        self.assertEqual(nows[0], (("drive",), ((0, self.RUN_0, 0), (0, self.RUN_1, 0)), ((self.G3, 0),), ()))
        self.assertEqual(nows[3], (("drive",), ((0, self.RUN_0, 4), (0, self.RUN_1, 1)), ((self.G3, 3),),
                                   ((("heads", self.CAST), ((2, 7), (2, 8))), (self.STEP, ((1, 8, 2),)))))
        self.assertEqual(nows[5], (("drive",), ((0, self.RUN_0, 5), (0, self.RUN_1, 1)), ((self.G3, 5),),
                                   ((("heads", self.CAST), ((3, 0), ())), (self.STEP, ((2, 15, 2),)))))
        self.assertEqual(nows[7], (("close", self.G3), (), ((self.G3, 7),), ((self.STEP, ((3, 3, 2),)),)))
        self.assertEqual(len(nows), 8)
        self.assertEqual(store.rows_in(("node", 3)), ((0, 4, 1), (1, 8, 2), (2, 15, 2), (3, 3, 2)))
        self.assertEqual(store.names(), (N0, ("node", 3), self.RUN_0, self.RUN_1))
        self.assertEqual((doing.words(), doing.turned(), doing.peak()), (14 + 12, 8, 4 + 3 + 3))

    def test_a_cast_that_is_just_full(self):
        rows = numbered(1, 2, 3, 4, 5, 6)
        store = begun_store(self.PROGRAM, {"sale": rows})
        nows, doing = done(self, self.PROGRAM, 24, self.PLAN, 0, store)
        self.assertEqual(nows[-1], (("close", self.CAST), (), ((self.K1, 6), (self.CAST, 6)), ()))
        self.assertEqual(store.names(), (N0, self.RUN_0))
        self.assertEqual(doing.turned(), 7)

    def test_no_rows(self):
        store = begun_store(self.PROGRAM, {"sale": ()})
        nows, doing = done(self, self.PROGRAM, 24, self.PLAN, 0, store)
        self.assertEqual(nows, [(("close", self.CAST), (), ((self.K1, 0), (self.CAST, 0)), ())])
        self.assertEqual((doing.words(), doing.turned(), store.names()), (0, 1, (N0,)))
        nows, doing = done(self, self.PROGRAM, 24, self.PLAN, 1, store)
        self.assertEqual(nows, [(("close", self.G3), (), ((self.G3, 0),), ())])
        self.assertEqual((doing.words(), doing.turned(), store.names()), (0, 1, (N0,)))

    def test_a_pass_without_turns(self):
        plan = (self.HALF, ((self.K1,), (self.CAST,), (self.MERGE,), (self.G3,)))
        for store in (Store(), Store(((N0, ()),))):
            for number in (0, 2):
                nows, doing = done(self, self.PROGRAM, 32, plan, number, store)
                self.assertEqual((nows, doing.words(), doing.peak(), doing.fault()), ([], 0, 0, ()))

    def test_every_node_stored(self):
        program = (self.PROGRAM[0], (0, 1, 2, 3))
        plan = (self.HALF, ((self.K1,), (self.CAST,), (self.MERGE,), (self.G3,)))
        tables = {"sale": self.ROWS}
        store = begun_store(program, tables)
        for number, one in enumerate(plan[1]):
            _, doing = done(self, program, 32, plan, number, store)
            self.assertEqual(store.files(), files_behind(program, 32, plan, tables, number + 1))
            self.assertEqual((doing.words(), doing.turned()), words_and_turns(program, 32, plan[0], one, tables))
        self.assertEqual(plain(program, tables), ("rows", tuple(store.rows_in(("node", k)) for k in range(4))))


class Ahead(unittest.TestCase):
    """A room in which a cast holds 4 and a merge reads 2 runs: of 5 runs pairs are merged ahead."""

    PROGRAM = alone(SALE, ("sort", 0, UP))
    PLAN = (((1, "half"),), (((1, "cast"),), ((1, "merge"),)))
    PART = (1, "cast")
    HEADS = ("heads", PART)

    def store(self, rows):
        return Store(files_behind(self.PROGRAM, 16, self.PLAN, {"sale": rows}, 1))

    def test_pair_by_pair(self):
        rows = numbered(5, 3, 5, 1, 9, 9, 2, 0, 4, 4)
        store = self.store(rows)
        runs = [("run", self.PART, n) for n in range(3)]
        ahead = ("ahead", self.PART, 0)
        self.assertEqual([store.rows_in(name) for name in runs],
                         [((1, 3), (3, 1), (5, 0), (5, 2)), ((0, 7), (2, 6), (9, 4), (9, 5)), ((4, 8), (4, 9))])
        nows, doing = done(self, self.PROGRAM, 16, self.PLAN, 1, store)
        self.assertEqual([now[0] for now in nows], [("ahead", self.PART, 0)] * 6 + [("drive",)] * 10)
        self.assertEqual(nows[0][1], ((0, runs[1], 0), (0, runs[2], 0)))
        self.assertEqual(nows[1][1:], (((0, runs[1], 2), (0, runs[2], 1)), (), ((self.HEADS, ((2, 6), (4, 8))),)))
        self.assertEqual(nows[3][1:], (((0, runs[1], 3), (0, runs[2], 2)), (), ((self.HEADS, ((9, 4), (4, 9))),)))
        self.assertEqual(nows[4][1:], (((0, runs[1], 3), (0, runs[2], 2)), (), ((self.HEADS, ((9, 4), ())),)))
        self.assertEqual(nows[6], (("drive",), ((0, ahead, 0), (0, runs[0], 0)), (), ()))
        self.assertEqual(nows[7][1:], (((0, ahead, 2), (0, runs[0], 1)), (), ((self.HEADS, ((1, 3), (2, 6))),)))
        self.assertEqual(store.rows_in(("node", 1)), plain(self.PROGRAM, {"sale": rows})[1][0])
        self.assertEqual(store.names(), (N0, ("node", 1), *runs))
        self.assertEqual((doing.words(), doing.turned()), (2 * 2 * 6 + 20 + 20, 16))

    def test_what_lies_in_the_store_meanwhile(self):
        store = self.store(numbered(5, 3, 5, 1, 9, 9, 2, 0, 4, 4))
        doing = Doing(self.PROGRAM, 16, self.PLAN, 1, store)
        ahead = ("ahead", self.PART, 0)
        expected = ((0, 7), (2, 6), (4, 8), (4, 9), (9, 4), (9, 5))
        for many in range(6):
            self.assertEqual(store.rows_in(ahead) if many else (), expected[:many])
            doing.turn()
        for _ in range(9):
            self.assertEqual(store.rows_in(ahead), expected)
            doing.turn()
        self.assertIn(ahead, store.names())
        doing.turn()
        self.assertNotIn(ahead, store.names())

    def test_several_pairs(self):
        rows = numbered(*[7 * k - 7 * k // 10 * 10 for k in range(20)])
        store = self.store(rows)
        nows, doing = done(self, self.PROGRAM, 16, self.PLAN, 1, store)
        self.assertEqual([name for name in store.names() if name[0] == "run"], [("run", self.PART, n) for n in range(5)])
        phases = [now[0] for now in nows]
        pairs = sorted({phase for phase in phases if phase[0] == "ahead"})
        self.assertEqual(pairs, [("ahead", self.PART, n) for n in range(len(pairs))])
        self.assertGreater(len(pairs), 2)
        self.assertEqual(phases, sorted(phases))
        self.assertEqual((doing.words(), doing.turned()),
                         words_and_turns(self.PROGRAM, 16, self.PLAN[0], self.PLAN[1][1], {"sale": rows}))
        self.assertEqual(store.rows_in(("node", 1)), plain(self.PROGRAM, {"sale": rows})[1][0])

    def test_no_more_than_the_fan(self):
        store = self.store(numbered(5, 3, 5, 1, 9, 9))
        nows, _ = done(self, self.PROGRAM, 16, self.PLAN, 1, store)
        self.assertEqual([now[0] for now in nows], [("drive",)] * 6)

    def test_the_phases_of_a_meet_in_a_narrow_room(self):
        program = alone(("read", "sale", ((0, 9),), 60), ("read", "names", ((0, 9),), 60), ("look", 0, 1, 0, 0))
        ways = ((2, "met"),)
        left, right, meet, merge = [(2, word) for word in ("left", "right", "meet", "merge")]
        plan = (ways, ((left,), (right,), (meet,), (merge,)))
        tables = {"sale": tuple((k // 3,) for k in range(30)), "names": tuple((9 - k // 6,) for k in range(60))}
        room = 52
        self.assertEqual([size_of(program, room, ways, part) for part in (left, right, meet)], [6, 13, 4])
        self.assertEqual((fan_of(program, room, ways, meet), fan_of(program, room, ways, merge)), ((6, 13), (4,)))
        store = begun_store(program, tables)
        phases = []
        for number, one in enumerate(plan[1]):
            nows, doing = done(self, program, room, plan, number, store)
            self.assertEqual(store.files(), files_behind(program, room, plan, tables, number + 1))
            phases.append([now[0] for now in nows])
        self.assertEqual(phases[0], [("drive",)] * 30 + [("close", left)])
        self.assertEqual(phases[1], [("drive",)] * 60 + [("close", right)])
        self.assertEqual(phases[2], [("drive",)] * 90 + [("close", meet)])
        self.assertEqual(sorted(set(phases[3])), [("ahead", meet, 0), ("ahead", meet, 1), ("drive",)])

    def test_left_and_right_both_ahead(self):
        """In the least rooms for wide records more runs stand than can be read side by side."""
        wide = ("read", "names", ((0, 9), (0, 99), (0, 9)), 60)
        program = alone(SALE, wide, ("look", 0, 1, 0, 0))
        ways = ((2, "met"),)
        left, right, meet, merge = [(2, word) for word in ("left", "right", "meet", "merge")]
        plan = (ways, ((left,), (right,), (meet,), (merge,)))
        room = 96
        self.assertEqual(fan_of(program, room, ways, meet), (8, 8))
        tables = {"sale": numbered(*[k // 6 for k in range(60)]),
                  "names": tuple((9 - k // 6, k, 0) for k in range(60))}
        self.assertEqual([size_of(program, room, ways, part) for part in (left, right, meet)], [8, 8, 4])
        store = begun_store(program, tables)
        done(self, program, room, plan, 0, store)
        done(self, program, room, plan, 1, store)
        self.assertEqual([len([1 for name in store.names() if name[:2] == ("run", part)]) for part in (left, right)], [8, 8])
        # Runs as a narrower room would have cast them.
        for name in store.names():
            if name[0] == "run":
                store.take_off(name)
        for part in (left, right):
            files = [rows for name, rows in files_behind(program, room, plan, tables, 2) if name[:2] == ("run", part)]
            shorter = [piece for rows in files for piece in (rows[:4], rows[4:]) if piece]
            for number, rows in enumerate(shorter):
                for record in rows:
                    store.write(("run", part, number), record)
        nows, doing = done(self, program, room, plan, 2, store)
        order = []
        for now in nows:
            if now[0][:2] not in order:
                order.append(now[0][:2])
        self.assertEqual(order, [("ahead", left), ("ahead", right), ("drive",), ("close", meet)])
        self.assertTrue(all(now[2] == ((meet, 0),) for now in nows if now[0][0] == "ahead"))
        done(self, program, room, plan, 3, store)
        self.assertEqual(store.rows_in(("node", 2)), plain(program, tables)[1][0])


class Kept(unittest.TestCase):
    PROGRAM = alone(SALE, NAMES, ("look", 0, 1, 0, 0), ("look", 0, 1, 1, 1), outputs=(2, 3))
    WAYS = ((2, "kept"), (3, "kept"))
    L2, L3 = (2, "step"), (3, "step")
    PLAN = (WAYS, ((L2, L3),))
    TABLES = {"sale": numbered(3, 4, 3, 5), "names": ((3, 1), (5, 2), (3, 0))}

    def test_tables_by_nodes_then_the_drive(self):
        store = begun_store(self.PROGRAM, self.TABLES)
        nows, doing = done(self, self.PROGRAM, 1000, self.PLAN, 0, store)
        self.assertEqual([now[0] for now in nows], [("kept", self.L2)] * 3 + [("kept", self.L3)] * 3 + [("drive",)] * 4)
        names = self.TABLES["names"]
        counts = ((self.L2, 0), (self.L3, 0))
        for number in range(3):
            held = ((("kept", self.L2), names[:number]),) if number else ()
            self.assertEqual(nows[number][1:], (((0, N1, number),), counts, held))
            more = ((("kept", self.L3), names[:number]),) if number else ()
            self.assertEqual(nows[3 + number][1:], (((0, N1, number),), counts, ((("kept", self.L2), names),) + more))
        self.assertEqual(nows[8][1:], (((0, N0, 2),), ((self.L2, 2), (self.L3, 2)),
                                       ((("kept", self.L2), names), (("kept", self.L3), names))))
        self.assertEqual(store.rows_in(("node", 2)), ((3, 0, 3, 1), (3, 2, 3, 1), (5, 3, 5, 2)))
        self.assertEqual(store.rows_in(("node", 3)), ((3, 0, 3, 0), (4, 1, 3, 1), (3, 2, 5, 2)))
        self.assertEqual((doing.words(), doing.peak()), (6 + 6 + 8 + 24, 12 + 2 + 4))

    def test_an_empty_table(self):
        for store in (begun_store(self.PROGRAM, {**self.TABLES, "names": ()}), Store(((N0, self.TABLES["sale"]),))):
            nows, doing = done(self, self.PROGRAM, 1000, self.PLAN, 0, store)
            self.assertEqual([now[0] for now in nows], [("drive",)] * 4)
            self.assertEqual(store.files()[0], (N0, self.TABLES["sale"]))

    def test_an_empty_file(self):
        store = begun_store(self.PROGRAM, {**self.TABLES, "sale": ()})
        nows, doing = done(self, self.PROGRAM, 1000, self.PLAN, 0, store)
        self.assertEqual([now[0] for now in nows], [("kept", self.L2)] * 3 + [("kept", self.L3)] * 3)
        self.assertEqual(doing.words(), 12)

    def test_held_till_the_close_is_done(self):
        program = alone(SALE, NAMES, ("gather", 0, 1, ()), ("look", 2, 1, 0, 0))
        g2, l3 = (2, "step"), (3, "step")
        store = begun_store(program, self.TABLES)
        nows, doing = done(self, program, 1000, (((3, "kept"),), ((g2, l3),)), 0, store)
        self.assertEqual(nows[-1], (("close", g2), (), ((g2, 4), (l3, 3)),
                                    ((("kept", l3), self.TABLES["names"]), (("step", g2), ((5,),)))))
        self.assertEqual(store.rows_in(("node", 3)), ((3, 3, 1), (3, 3, 1), (5, 5, 2)))


class Others(unittest.TestCase):
    def test_both(self):
        program = alone(SALE, NAMES, ("both", 0, 1), ("carry", 2, ("plus", ("was",), ("at", 1)), 50), outputs=(2, 3))
        both, c3 = (2, "both"), (3, "step")
        store = begun_store(program, {"sale": numbered(3, 4), "names": numbered(8, 9)})
        nows, doing = done(self, program, 100, ((), ((both, c3),)), 0, store)
        self.assertEqual([now[1] for now in nows], [((0, N0, one), (1, N1, other))
                                                    for one, other in ((0, 0), (1, 0), (2, 0), (2, 1))])
        self.assertEqual([now[2] for now in nows], [((c3, number),) for number in range(4)])
        self.assertEqual([now[3] for now in nows], [((("step", c3), ((was,),)),) for was in (50, 50, 51, 51)])
        self.assertEqual(store.rows_in(("node", 2)), ((3, 0), (4, 1), (8, 0), (9, 1)))
        self.assertEqual(store.rows_in(("node", 3)), ((3, 0, 50), (4, 1, 51), (8, 0, 51), (9, 1, 52)))
        self.assertEqual((doing.words(), doing.peak()), (8 + 8 + 12, 1 + 2 + 3))

    def test_beside(self):
        program = alone(SALE, NAMES, ("beside", 0, 1), ("first", 2, 1), outputs=(2, 3))
        store = begun_store(program, {"sale": numbered(3, 4), "names": numbered(8, 9)})
        nows, doing = done(self, program, 100, ((), (((2, "beside"), (3, "step")),)), 0, store)
        self.assertEqual([now[:2] for now in nows], [(("drive",), ((0, N0, n), (1, N1, n))) for n in range(2)])
        self.assertEqual(store.rows_in(("node", 2)), ((3, 0, 8, 0), (4, 1, 9, 1)))
        self.assertEqual(store.rows_in(("node", 3)), ((3, 0, 8, 0),))
        self.assertEqual((doing.words(), doing.peak()), (8 + 8 + 4, 4))

    def test_a_block(self):
        program = alone(SALE, NAMES, ("look", 0, 1, 0, 0), ("first", 2, 2), outputs=(2, 3))
        block, f3 = (2, "block"), (3, "step")
        store = begun_store(program, {"sale": numbered(3, 4, 5), "names": numbered(5, 3)})
        nows, doing = done(self, program, 16, (((2, "blocked"),), ((block, f3),)), 0, store)
        self.assertEqual([now[0][0] for now in nows], ["fill", "fill", "hold", "hold", "hand", "hand",
                                                       "fill", "hold", "hold", "hand"])
        self.assertEqual(nows[4], (("hand",), ((0, N0, 2), (1, N1, 2)), ((f3, 0),),
                                   ((("block", block), ((3, 0, 3, 1), (4, 1))),)))
        self.assertEqual(nows[6], (("fill",), ((0, N0, 2), (1, N1, 0)), ((f3, 1),), ()))
        self.assertEqual(store.rows_in(("node", 2)), ((3, 0, 3, 1), (5, 2, 5, 0)))
        self.assertEqual(store.rows_in(("node", 3)), ((3, 0, 3, 1), (5, 2, 5, 0)))
        self.assertEqual((doing.words(), doing.peak()), (6 + 8 + 8 + 8, 2 + 4 + 2))

    def test_a_meet(self):
        program = alone(SALE, NAMES, ("look", 0, 1, 0, 0))
        left, right, meet, merge = [(2, word) for word in ("left", "right", "meet", "merge")]
        plan = (((2, "met"),), ((left, ), (right,), (meet,), (merge,)))
        tables = {"sale": numbered(5, 3, 5, 4), "names": numbered(5, 3)}
        store = begun_store(program, tables)
        nows, doing = done(self, program, 240, plan, 0, store)
        self.assertEqual(nows[2][2:], (((left, 2),), ((("cast", left), ((5, 0, 0), (3, 1, 1))),)))
        done(self, program, 240, plan, 1, store)
        nows, doing = done(self, program, 240, plan, 2, store)
        self.assertEqual([now[2] for now in nows], [((meet, n),) for n in (0, 0, 1, 1, 1, 2, 3)])
        self.assertEqual(nows[6], (("close", meet), (), ((meet, 3),),
                                   ((("cast", meet), ((3, 1, 3, 1, 1), (5, 0, 5, 0, 0), (5, 2, 5, 0, 2))),)))
        self.assertEqual(store.rows_in(("run", meet, 0)), ((5, 0, 5, 0, 0), (3, 1, 3, 1, 1), (5, 2, 5, 0, 2)))
        done(self, program, 240, plan, 3, store)
        self.assertEqual(store.rows_in(("node", 2)), ((5, 0, 5, 0), (3, 1, 3, 1), (5, 2, 5, 0)))

    def test_left_and_right_of_one_file(self):
        program = alone(SALE, ("look", 0, 0, 0, 0))
        left, right, meet, merge = [(1, word) for word in ("left", "right", "meet", "merge")]
        plan = (((1, "met"),), ((left, right), (meet,), (merge,)))
        store = begun_store(program, {"sale": numbered(5, 3, 5)})
        nows, _ = done(self, program, 240, plan, 0, store)
        self.assertEqual([now[0] for now in nows], [("drive",)] * 3 + [("close", left), ("close", right)])
        self.assertEqual(nows[4], (("close", right), (), ((left, 3), (right, 3)),
                                   ((("cast", right), ((5, 0), (3, 1), (5, 2))),)))
        self.assertEqual(store.rows_in(("run", left, 0)), ((3, 1, 1), (5, 0, 0), (5, 2, 2)))
        self.assertEqual(store.rows_in(("run", right, 0)), ((3, 1), (5, 0), (5, 2)))

    def test_each_with_all_that_comes_of_it(self):
        """What a gather hands on at its close comes to the cast behind it, ahead of that one's close."""
        program = alone(SALE, ("gather", 0, 1, ()), ("gather", 0, 1, (("count",),)), ("sort", 1, ((0, "down"),)),
                        ("gather", 2, 2, ()), outputs=(3, 4))
        ways = ((3, "half"),)
        one = ((1, "step"), (2, "step"), (3, "cast"), (4, "step"))
        plan = (ways, (one, ((3, "merge"),)))
        store = begun_store(program, {"sale": numbered(5, 5, 3)})
        nows, _ = done(self, program, 100, plan, 0, store)
        self.assertEqual([now[0] for now in nows[3:]], [("close", part) for part in one])
        self.assertEqual([now[2] for now in nows[3:]], [
            tuple(zip(one, many)) for many in ((3, 3, 1, 1), (3, 3, 2, 1), (3, 3, 2, 2), (3, 3, 2, 2))])
        self.assertEqual([dict(now[3]) for now in nows[3:]], [
            {("step", one[0]): ((3,),), ("step", one[1]): ((3, 1),), ("step", one[3]): ((5, 2),), ("cast", one[2]): ((5,),)},
            {("step", one[1]): ((3, 1),), ("step", one[3]): ((5, 2),), ("cast", one[2]): ((5,), (3,))},
            {("step", one[3]): ((3, 1),), ("cast", one[2]): ((5,), (3,))}, {("step", one[3]): ((3, 1),)}])
        self.assertEqual(store.rows_in(("node", 4)), ((5, 2), (3, 1)))
        self.assertEqual(store.rows_in(("run", (3, "cast"), 0)), ((5,), (3,)))

    def test_the_words_of_the_pass_alone(self):
        program = alone(SALE, ("keep", 0, 1))
        store = begun_store(program, {"sale": numbered(1, 2)})
        store.read(N0, 0)
        doing = Doing(program, 100, ((), (((1, "step"),),)), 0, store)
        self.assertEqual(doing.words(), 0)
        doing.turn()
        store.read(N0, 0)
        store.read(N0, 1)
        self.assertEqual(doing.words(), 4)
        doing.turn()
        self.assertEqual(doing.words(), 8)

    def test_nothing_else_is_taken_off(self):
        program = alone(SALE, ("sort", 0, UP), ("sort", 0, ((1, "up"),)), outputs=(1, 2))
        plan = (((1, "half"), (2, "half")), (((1, "cast"),), ((2, "cast"),), ((1, "merge"),), ((2, "merge"),)))
        tables = {"sale": numbered(3, 2, 1)}
        more = ((("ahead", (2, "cast"), 0), ((1, 1),)), (("ahead", (2, "cast"), 1), ((1, 1),)))
        store = Store(tuple(sorted(files_behind(program, 100, plan, tables, 2) + more)))
        doing = Doing(program, 100, plan, 2, store)
        while not doing.is_over():
            doing.turn()
        self.assertEqual(store.files(), tuple(sorted(files_behind(program, 100, plan, tables, 3) + more)))


class Asked(unittest.TestCase):
    def test_by_name_and_as_it_was(self):
        program = alone(SALE, ("keep", 0, 1))
        plan = ((), (((1, "step"),),))
        store = begun_store(program, {"sale": numbered(1, 2)})
        now = (("drive",), ((0, N0, 1),), (((1, "step"), 1),), ())
        with Unchanged(self, program, plan, now):
            doing = Doing(own=(), now=now, below=None, store=store, number=0, plan=plan, room=100, program=program)
            self.assertEqual(doing.now(), now)
            doing.turn()
        self.assertTrue(doing.is_over())
        self.assertEqual(store.rows_in(("node", 1)), ((2, 1),))


if __name__ == "__main__":
    unittest.main()
