import unittest

from rowhaul.machine.passes import Doing
from rowhaul.machine.store import Store
from rowhaul.programs.plain import plain
from tests.plans import begun_store, lead
from tests.test_doing import NAMES, N0, N1, SALE, UP, done, numbered
from tests.things import TOP, alone

A, B = ("at", 0), ("at", 1)


def falls_at(word):
    """An expression that is 1, but falls where the first column is this word."""
    return ("same", ("over", 0, ("minus", A, word)), 0)


def steps(*numbers):
    return tuple((k, "step") for k in numbers)


class EachKind(unittest.TestCase):
    """A step that falls, alone in its pass: the fault, and that the file is read to its end."""

    def told(self, node, rows, fault):
        program = alone(SALE, node)
        plan = ((), (steps(1),))
        store = begun_store(program, {"sale": rows})
        nows, doing = done(self, program, 1000, plan, 0, store)
        self.assertEqual(doing.fault(), fault)
        self.assertEqual(plain(program, {"sale": rows}), ("fault", fault))
        self.assertEqual([now[0] for now in nows], [("drive",)] * len(rows))
        at = fault[1]
        self.assertEqual([now[2] for now in nows], [(((1, "step"), n),) if n <= at else () for n in range(len(rows))])
        self.assertTrue(all(now[3] == () for now in nows[at + 1:]))
        return store

    def test_map(self):
        store = self.told(("map", 0, (falls_at(7), 5)), numbered(1, 2, 7, 3, 7), (1, 2, "nought"))
        self.assertEqual(store.rows_in(("node", 1)), ((1, 5), (1, 5)))
        self.told(("map", 0, (("times", A, TOP),)), numbered(0, 1, 2, 3), (1, 2, "great"))

    def test_keep(self):
        store = self.told(("keep", 0, falls_at(7)), numbered(7, 2, 7, 3), (1, 0, "nought"))
        self.assertNotIn(("node", 1), store.names())
        self.told(("keep", 0, ("times", A, TOP)), numbered(1, 0, 1, 2), (1, 3, "great"))

    def test_carry(self):
        store = self.told(("carry", 0, ("times", ("was",), 10), 10 ** 7), numbered(1, 1, 1, 1, 1), (1, 2, "great"))
        self.assertEqual(store.rows_in(("node", 1)), ((1, 0, 10 ** 8), (1, 1, 10 ** 9)))
        self.told(("carry", 0, ("over", A, ("was",)), 1), numbered(3, 0, 1, 2), (1, 2, "nought"))

    def test_gather(self):
        program = alone(SALE, ("map", 0, (A, ("times", B, 10 ** 7))), ("gather", 1, 1, (("sum", 1),)))
        plan = ((), (steps(1, 2),))
        rows = ((1, 60), (2, 60), (2, 40), (2, 1), (2, 0), (3, 0))
        store = begun_store(program, {"sale": rows})
        nows, doing = done(self, program, 1000, plan, 0, store)
        self.assertEqual(doing.fault(), (2, 3, "great"))
        self.assertEqual([now[0] for now in nows], [("drive",)] * 6)
        self.assertEqual(nows[3][3], ((("step", (2, "step")), ((2, 10 ** 9),)),))
        self.assertEqual(nows[4][2:], ((((1, "step"), 4),), ()))
        self.assertEqual(store.rows_in(("node", 2)), ((1, 6 * 10 ** 8),))

    def test_a_gathers_last_group_is_not_closed(self):
        program = alone(SALE, ("gather", 0, 1, (("count",),)), ("keep", 0, falls_at(7)), outputs=(1, 2))
        store = begun_store(program, {"sale": numbered(1, 2, 7)})
        nows, doing = done(self, program, 1000, ((), (steps(1, 2),)), 0, store)
        self.assertEqual((doing.fault(), nows[-1][0]), ((2, 2, "nought"), ("close", (1, "step"))))
        other = alone(SALE, ("keep", 0, falls_at(7)), ("gather", 0, 1, (("count",),)), outputs=(1, 2))
        store = begun_store(other, {"sale": numbered(1, 2, 7)})
        nows, doing = done(self, other, 1000, ((), (steps(1, 2),)), 0, store)
        self.assertEqual((doing.fault(), nows[-1][0]), ((1, 2, "nought"), ("drive",)))
        self.assertEqual(store.rows_in(("node", 2)), ((1, 1),))


class Beside(unittest.TestCase):
    PROGRAM = alone(SALE, NAMES, ("beside", 0, 1), ("gather", 2, 1, ()), outputs=(2, 3))
    PLAN = ((), (((2, "beside"), (3, "step")),))

    def test_no_turn(self):
        for one, other in ((2, 3), (3, 0), (0, 1)):
            store = begun_store(self.PROGRAM, {"sale": numbered(*[1] * one), "names": numbered(*[1] * other)})
            before = store.files()
            nows, doing = done(self, self.PROGRAM, 1000, self.PLAN, 0, store)
            self.assertEqual((nows, doing.fault(), doing.words()), ([], (2, min(one, other), "uneven"), 0))
            self.assertEqual(store.files(), before)

    def test_a_file_that_is_not_there(self):
        _, doing = done(self, self.PROGRAM, 1000, self.PLAN, 0, Store(((N1, numbered(4)),)))
        self.assertEqual(doing.fault(), (2, 0, "uneven"))
        _, doing = done(self, self.PROGRAM, 1000, self.PLAN, 0, Store())
        self.assertEqual(doing.fault(), ())

    def test_there_as_the_phase_is_come_to(self):
        """Behind the turns in which a table is kept: that is let go."""
        narrow = ("read", "sale", ((0, 9),), 60)
        program = alone(narrow, NAMES, ("beside", 0, 1), ("look", 2, 1, 0, 0))
        plan = (((3, "kept"),), (((2, "beside"), (3, "step")),))
        store = begun_store(program, {"sale": ((1,), (2,)), "names": numbered(1, 2, 3)})
        doing = Doing(program, 1000, plan, 0, store)
        for number in range(3):
            self.assertEqual(doing.fault(), ())
            self.assertEqual(doing.now()[:3], (("kept", (3, "step")), ((0, N1, number),), (((3, "step"), 0),)))
            doing.turn()
        self.assertEqual((doing.is_over(), doing.fault(), doing.turned()), (True, (2, 2, "uneven"), 3))
        _, again = done(self, program, 1000, plan, 0, store)
        self.assertEqual(again.fault(), (2, 2, "uneven"))


class Several(unittest.TestCase):
    """0 sale; 1, 2, 3, 4 over it; each may fall at a word."""

    def led(self, words, rows, outputs=(1, 2, 3, 4)):
        program = alone(SALE, *[("keep", 0, falls_at(word)) for word in words], outputs=outputs)
        store = begun_store(program, {"sale": rows})
        nows, doing = done(self, program, 1000, ((), (steps(*range(1, len(words) + 1)),)), 0, store)
        self.assertEqual(plain(program, {"sale": rows}), ("fault", doing.fault()))
        return nows, doing, store

    def test_the_lowest_of_several(self):
        rows = numbered(4, 3, 2, 1, 5)
        nows, doing, store = self.led((1, 2, 3, 4), rows)
        self.assertEqual(doing.fault(), (1, 3, "nought"))
        self.assertEqual([now[2] for now in nows], [
            tuple(zip(steps(1, 2, 3, 4), (0,) * 4)), tuple(zip(steps(1, 2, 3), (1,) * 3)),
            tuple(zip(steps(1, 2), (2,) * 2)), tuple(zip(steps(1), (3,))), ()])
        self.assertEqual([len(store.rows_in(("node", k))) if ("node", k) in store.names() else 0 for k in (1, 2, 3, 4)],
                         [3, 2, 1, 0])

    def test_a_higher_one_behind_a_lower_one_is_none(self):
        nows, doing, store = self.led((5, 2, 3, 4), numbered(1, 2, 3, 4))
        self.assertEqual(doing.fault(), (2, 1, "nought"))
        self.assertEqual([store.how_many(("node", k)) for k in (1, 2, 3, 4)], [4, 1, 1, 1])

    def test_in_one_record(self):
        nows, doing, store = self.led((9, 3, 3, 3), numbered(1, 3, 1))
        self.assertEqual(doing.fault(), (2, 1, "nought"))
        self.assertEqual(len(store.rows_in(("node", 1))), 3)
        self.assertEqual([len(store.rows_in(("node", k))) for k in (2, 3, 4)], [1, 1, 1])

    def test_what_comes_of_a_record_ahead_of_the_next_part(self):
        """3 is behind 1; 2 has the record of 0 too: as 3 falls 2 still gets it, and falls."""
        program = alone(SALE, ("keep", 0, 1), ("keep", 0, falls_at(3)), ("keep", 1, falls_at(3)), ("keep", 0, 1),
                        outputs=(1, 2, 3, 4))
        store = begun_store(program, {"sale": numbered(1, 3, 1)})
        nows, doing = done(self, program, 1000, ((), (steps(1, 2, 3, 4),)), 0, store)
        self.assertEqual(doing.fault(), (2, 1, "nought"))
        self.assertEqual([store.how_many(("node", k)) for k in (1, 2, 3, 4)], [3, 1, 1, 1])
        self.assertEqual(nows[2][2], (((1, "step"), 2),))

    def test_a_part_of_a_greater_node_does_not_get_the_record_at_hand(self):
        program = alone(SALE, ("keep", 0, falls_at(3)), ("gather", 0, 0, (("count",),)), outputs=(1, 2))
        store = begun_store(program, {"sale": numbered(1, 3, 1)})
        nows, doing = done(self, program, 1000, ((), (steps(1, 2),)), 0, store)
        self.assertEqual([now[2:] for now in nows], [
            ((((1, "step"), 0), ((2, "step"), 0)), ()), ((((1, "step"), 1), ((2, "step"), 1)), ((("step", (2, "step")), ((1,),)),)),
            ((), ())])

    def test_at_the_close(self):
        """The last group falls where it comes to; what closes behind it has no turn."""
        program = alone(SALE, ("gather", 0, 1, (("count",),)), ("map", 1, (("over", 1, ("minus", B, 2)),)),
                        ("sort", 0, UP), ("gather", 2, 1, ()), outputs=(3, 4))
        plan = (((3, "half"),), (((1, "step"), (2, "step"), (3, "cast"), (4, "step")), ((3, "merge"),)))
        store = begun_store(program, {"sale": numbered(1, 3, 3)})
        nows, doing = done(self, program, 1000, plan, 0, store)
        self.assertEqual([now[0] for now in nows], [("drive",)] * 3 + [("close", (1, "step"))])
        self.assertEqual(doing.fault(), (2, 1, "nought"))
        self.assertEqual(store.names(), (N0,))


class WhatStops(unittest.TestCase):
    def test_casts_let_go_what_they_hold(self):
        program = alone(SALE, ("keep", 0, falls_at(7)), ("sort", 0, UP), outputs=(1, 2))
        plan = (((2, "half"),), (((1, "step"), (2, "cast")), ((2, "merge"),)))
        store = begun_store(program, {"sale": numbered(1, 2, 3, 4, 5, 7, 6, 6)})
        nows, doing = done(self, program, 16, plan, 0, store)
        self.assertEqual([now[3] for now in nows[4:]], [(), ((("cast", (2, "cast")), ((5, 4),)),), (), ()])
        self.assertEqual(len(nows), 8)
        self.assertEqual(store.names(), (N0, ("node", 1), ("run", (2, "cast"), 0)))

    def test_kept_tables_are_let_go(self):
        program = alone(SALE, NAMES, ("keep", 0, falls_at(7)), ("look", 0, 1, 0, 0), outputs=(2, 3))
        plan = (((3, "kept"),), (steps(2, 3),))
        store = begun_store(program, {"sale": numbered(1, 7, 1), "names": numbered(1, 2)})
        nows, doing = done(self, program, 1000, plan, 0, store)
        self.assertEqual(nows[3][3], ((("kept", (3, "step")), numbered(1, 2)),))
        self.assertEqual(nows[4][2:], ((), ()))
        self.assertEqual(store.rows_in(("node", 3)), ((1, 0, 1, 0),))

    def test_what_is_ahead_goes_on(self):
        """1 is stored and gathered as if 3 were not there; the driver is one of a sort."""
        program = alone(SALE, ("sort", 0, UP), ("carry", 1, ("plus", ("was",), 1), 0), ("keep", 2, falls_at(3)),
                        ("carry", 1, 1, 0), outputs=(1, 2, 3, 4))
        plan = (((1, "half"),), (((1, "cast"),), ((1, "merge"), *steps(2, 3, 4))))
        store = begun_store(program, {"sale": numbered(5, 4, 3, 2, 1)})
        done(self, program, 1000, plan, 0, store)
        nows, doing = done(self, program, 1000, plan, 1, store)
        self.assertEqual(doing.fault(), (3, 2, "nought"))
        self.assertEqual([now[2] for now in nows[2:]], [(((2, "step"), 2), ((3, "step"), 2), ((4, "step"), 2)),
                                                        (((2, "step"), 3),), (((2, "step"), 4),)])
        self.assertEqual([now[3][1:] for now in nows[3:]], [((("step", (2, "step")), ((n,),)),) for n in (3, 4)])
        self.assertEqual([store.how_many(("node", k)) for k in (1, 2, 3, 4)], [5, 5, 2, 2])

    def test_a_driver_goes_on_to_its_end_though_all_have_stopped(self):
        program = alone(SALE, NAMES, ("look", 0, 1, 0, 0), ("keep", 2, falls_at(3)), outputs=(2, 3))
        plan = (((2, "blocked"),), (((2, "block"), (3, "step")),))
        store = begun_store(program, {"sale": numbered(3, 4, 5, 4), "names": numbered(5, 3, 4)})
        nows, doing = done(self, program, 16, plan, 0, store)
        self.assertEqual(doing.fault(), (3, 0, "nought"))
        self.assertEqual(len(nows), 4 + 2 * 3 + 4)
        self.assertEqual(store.how_many(("node", 2)), 4)


class Below(unittest.TestCase):
    PROGRAM = alone(SALE, NAMES, ("keep", 0, 1), ("look", 2, 1, 0, 0), ("keep", 2, falls_at(3)), ("sort", 2, UP),
                    ("gather", 0, 0, (("count",),)), outputs=(3, 4, 5, 6))
    WAYS = ((3, "kept"), (5, "half"))
    ONE = ((2, "step"), (3, "step"), (4, "step"), (5, "cast"), (6, "step"))
    PLAN = (WAYS, (ONE, ((5, "merge"),)))
    TABLES = {"sale": numbered(1, 3, 1), "names": numbered(1, 3)}

    def done_below(self, below):
        store = begun_store(self.PROGRAM, self.TABLES)
        nows, doing = done(self, self.PROGRAM, 1000, self.PLAN, 0, store, below=below)
        return nows, doing, store

    def test_all(self):
        for below in (None, 7, 10, 99):
            nows, doing, store = self.done_below(below)
            self.assertEqual(doing.fault(), (4, 1, "nought"))
            self.assertEqual([now[0][0] for now in nows], ["kept"] * 2 + ["drive"] * 3)

    def test_some(self):
        nows, doing, store = self.done_below(4)
        self.assertEqual((doing.fault(), len(nows)), ((), 5))
        self.assertEqual(nows[0][2], (((2, "step"), 0), ((3, "step"), 0)))
        self.assertEqual(store.names(), (N0, N1, ("node", 3)))
        nows, doing, store = self.done_below(5)
        self.assertEqual(doing.fault(), (4, 1, "nought"))
        self.assertEqual([part for part, _ in nows[0][2]], list(self.ONE[:3]))

    def test_kept_tables_of_others_are_not_read(self):
        nows, doing, store = self.done_below(3)
        self.assertEqual([now[0] for now in nows], [("drive",)] * 3)
        self.assertEqual((doing.words(), store.names()), (6, (N0, N1)))

    def test_what_it_stores_stays_as_told(self):
        """2 is a stream of parts of the pass alone: it isn't stored, though they are left out."""
        _, _, store = self.done_below(3)
        self.assertNotIn(("node", 2), store.names())

    def test_none(self):
        for below in (0, 1, 2):
            nows, doing, store = self.done_below(below)
            self.assertEqual((nows, doing.words(), doing.fault()), ([], 0, ()))

    def test_no_close_of_others(self):
        program = alone(SALE, ("gather", 0, 0, (("count",),)), ("gather", 0, 1, ()), outputs=(1, 2))
        store = begun_store(program, {"sale": numbered(1, 3)})
        nows, _ = done(self, program, 1000, ((), (steps(1, 2),)), 0, store, below=2)
        self.assertEqual([now[0] for now in nows], [("drive",)] * 2 + [("close", (1, "step"))])


class Own(unittest.TestCase):
    def test_what_stopped_stays_so(self):
        program = alone(SALE, ("keep", 0, falls_at(1)), ("keep", 0, falls_at(2)), ("keep", 0, 1), outputs=(1, 2, 3))
        plan = ((), (steps(1, 2, 3),))
        store = begun_store(program, {"sale": numbered(2, 2, 3, 1)})
        now = (("drive",), ((0, N0, 1),), (((1, "step"), 1),), ())
        doing = Doing(program, 1000, plan, 0, store, now=now, own=(2, 0, "nought"))
        self.assertEqual((doing.now(), doing.fault()), (now, (2, 0, "nought")))
        doing.turn()
        self.assertEqual((doing.now()[2], doing.fault()), ((((1, "step"), 2),), (2, 0, "nought")))
        doing.turn()
        doing.turn()
        self.assertEqual((doing.is_over(), doing.fault()), (True, (1, 3, "nought")))
        self.assertEqual(store.names(), (N0, ("node", 1)))

    def test_ahead_of_the_begin(self):
        program = alone(SALE, ("keep", 0, 1), ("carry", 0, 1, 0), outputs=(1, 2))
        store = begun_store(program, {"sale": numbered(2)})
        doing = Doing(program, 1000, ((), (steps(1, 2),)), 0, store, own=(2, 0, "nought"))
        self.assertEqual((doing.fault(), doing.now()[2:]), ((2, 0, "nought"), ((((1, "step"), 0),), ())))

    def test_by_what_is_held_and_came(self):
        """What is told may be other words: it goes on by those."""
        program = alone(SALE, ("carry", 0, ("plus", ("was",), A), 0), ("first", 0, 2), ("gather", 0, 1, (("sum", 1),)),
                        outputs=(1, 2, 3))
        store = begun_store(program, {"sale": numbered(1, 5, 5)})
        now = (("drive",), ((0, N0, 1),), tuple(zip(steps(1, 2, 3), (1, 1, 1))),
               ((("step", (1, "step")), ((100,),)), (("step", (3, "step")), ((5, 50),))))
        doing = Doing(program, 1000, ((), (steps(1, 2, 3),)), 0, store, now=now)
        while not doing.is_over():
            doing.turn()
        self.assertEqual(store.rows_in(("node", 1)), ((5, 1, 105), (5, 2, 110)))
        self.assertEqual(store.rows_in(("node", 2)), ((5, 1),))
        self.assertEqual(store.rows_in(("node", 3)), ((5, 53),))


class Led(unittest.TestCase):
    """Plans led to their end: later passes are done below the lowest fault, or left out."""

    def test_a_later_pass_meets_a_lower_fault(self):
        program = alone(SALE, ("sort", 0, UP), ("keep", 0, falls_at(3)), ("keep", 1, falls_at(2)), ("keep", 1, falls_at(1)),
                        outputs=(2, 3, 4))
        rows = numbered(3, 2, 1)
        for passes in ((((1, "cast"),), steps(2), ((1, "merge"), *steps(3, 4))),
                       (((1, "cast"),), ((1, "merge"), *steps(3, 4)), steps(2)),
                       (((1, "cast"),), ((1, "merge"), *steps(4)), steps(3), steps(2)),
                       (((1, "cast"), (2, "step")), ((1, "merge"), (3, "step"), (4, "step")))):
            told, store = lead(program, 1000, (((1, "half"),), passes), {"sale": rows})
            self.assertEqual(told, ("fault", (2, 0, "nought")))

    def test_left_out(self):
        program = alone(SALE, ("keep", 0, falls_at(3)), ("sort", 1, UP))
        plan = (((2, "half"),), (steps(1), ((2, "cast"),), ((2, "merge"),)))
        seen = []
        told, store = lead(program, 1000, plan, {"sale": numbered(1, 3)}, lambda doing, number, *_: seen.append(number))
        self.assertEqual((told, seen), (("fault", (1, 1, "nought")), [0, 0]))
        self.assertEqual(store.names(), (N0, ("node", 1)))


if __name__ == "__main__":
    unittest.main()
