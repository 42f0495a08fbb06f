import unittest

from rowhaul.errors import Busy, Missing, NoNumber, NoPlan, NoProgram, NoTables, Over, TooWide, Unfit
from rowhaul.house.house import House
from rowhaul.plans.plans import is_plan
from rowhaul.plans.words import plan_words
from rowhaul.search.least import least
from tests.runs import KEPT, NAMES, SALE, SORTED, numbered
from tests.test_least import WIDE
from tests.things import ANYTHING, NO_WHOLE, TOP, Unchanged, alone

NO_NAMES = [thing for thing in ANYTHING if thing not in ("a", "at", "was", "count", "read", "up")] + [
    "Sale", "sale1", "sale ", " sale", "nine", "ninelettr", "a_b", "sale\n", "", ("sale",), ["sale"], b"sale"]
NO_NAMES.remove("nine")
NO_ROWS = [thing for thing in ANYTHING if thing not in ((), ((1,), (0,)))] + [
    [(1, 2)], ([1, 2],), ((1, 2), (1,)), ((1, 2), (1, 2, 3)), ((),), ((1,) * 10,), ((True,),), ((None,),), (("1",),),
    ((TOP + 1,),), ((-TOP - 1,),), ((1,),) * 401, {0: (1, 2)}, ((1, 2), None), (1, 2)]
NO_RECORDS = [thing for thing in ANYTHING if thing not in ((1, 2), (1,), (1, 2, 3))] + [(1, 2.0), (1, True), [1, 2], (TOP + 1, 1)]
PROGRAM, ROOM, PLAN = SORTED.asked
ROWS = SORTED.tables["sale"]


def some_house():
    house = House()
    house.put("sale", ROWS)
    house.put("names", numbered(5, 6))
    house.lead("report", PROGRAM, ROOM, plan=PLAN)
    house.lead("all", *KEPT.asked[:2], plan=KEPT.plan)
    return house


class Deeds(unittest.TestCase):
    def test_an_empty_house(self):
        house = House()
        self.assertEqual((house.tables(), house.programs(), house.is_busy()), ({}, {}, False))

    def test_put(self):
        house = House()
        self.assertIsNone(house.put("sale", ROWS))
        house.put("b", ())
        house.put("c", ((1,),) * 400)
        house.put("d", ((1,) * 9, (TOP,) * 9, (-TOP,) * 9))
        self.assertEqual(house.tables(), {"sale": ROWS, "b": (), "c": ((1,),) * 400, "d": ((1,) * 9, (TOP,) * 9, (-TOP,) * 9)})
        house.put("c", ((1, 2), (3, 4)))
        self.assertEqual(house.tables()["c"], ((1, 2), (3, 4)))
        house.put("eightlet", ())
        self.assertIn("eightlet", house.tables())

    def test_change(self):
        house = House()
        house.put("a", ((1, 2), (3, 4), (5, 6)))
        self.assertIsNone(house.change("a", 1, (7, 8)))
        self.assertEqual(house.tables(), {"a": ((1, 2), (7, 8), (5, 6))})
        house.change("a", 0, (0, 0))
        house.change("a", 2, (9, 9))
        self.assertEqual(house.tables(), {"a": ((0, 0), (7, 8), (9, 9))})
        house.put("a", ((1, 2),))
        # The only record may be of another width.
        house.change("a", 0, (1, 2, 3))
        self.assertEqual(house.tables(), {"a": ((1, 2, 3),)})

    def test_put_in(self):
        house = House()
        house.put("a", ((1, 2), (3, 4)))
        self.assertIsNone(house.put_in("a", 1, (7, 8)))
        house.put_in("a", 0, (0, 0))
        house.put_in("a", 4, (9, 9))
        self.assertEqual(house.tables(), {"a": ((0, 0), (1, 2), (7, 8), (3, 4), (9, 9))})
        house.put("b", ())
        house.put_in("b", 0, (1,) * 9)
        self.assertEqual(house.tables()["b"], ((1,) * 9,))
        house.put("c", ((1,),) * 399)
        house.put_in("c", 399, (2,))
        self.assertEqual(house.tables()["c"], ((1,),) * 399 + ((2,),))

    def test_strike(self):
        house = House()
        house.put("a", ((1, 2), (3, 4), (5, 6)))
        self.assertIsNone(house.strike("a", 1))
        house.strike("a", 1)
        self.assertEqual(house.tables(), {"a": ((1, 2),)})
        house.strike("a", 0)
        self.assertEqual(house.tables(), {"a": ()})

    def test_lead_and_drop(self):
        house = some_house()
        self.assertEqual(house.programs(), {"report": (PROGRAM, ROOM, PLAN), "all": KEPT.asked})
        self.assertIsNone(house.lead("report", PROGRAM, 100))
        room, plan = house.programs()["report"][1:]
        self.assertEqual(room, 100)
        self.assertTrue(is_plan(PROGRAM, 100, plan))
        self.assertEqual(sum(plan_words(PROGRAM, 100, plan)), sum(plan_words(PROGRAM, 100, least(PROGRAM, 100)[0])))
        self.assertIsNone(house.drop("report"))
        self.assertEqual(list(house.programs()), ["all"])
        house.lead("report", PROGRAM, ROOM, plan=None)
        self.assertTrue(is_plan(PROGRAM, ROOM, house.programs()["report"][2]))

    def test_a_table_that_no_program_reads(self):
        house = some_house()
        house.put("more", ((TOP,),))
        house.put("more", ((1, 2, 3),) * 400)
        house.change("more", 0, (9, 9, 9))
        self.assertEqual(len(house.tables()), 3)

    def test_what_is_told_is_the_askers_own(self):
        house = some_house()
        tables, programs = house.tables(), house.programs()
        tables.clear()
        programs["report"] = None
        del programs["all"]
        self.assertEqual(house.tables(), {"sale": ROWS, "names": numbered(5, 6)})
        self.assertEqual(sorted(house.programs()), ["all", "report"])
        told = house.tables()
        house.strike("sale", 0)
        self.assertEqual(told["sale"], ROWS)

    def test_two_houses_do_not_meet(self):
        one, other = some_house(), some_house()
        one.strike("sale", 0)
        one.drop("all")
        one.begin("report")
        self.assertEqual((other.tables()["sale"], len(other.programs()), other.is_busy()), (ROWS, 2, False))


class Refused(unittest.TestCase):
    def setUp(self):
        self.house = some_house()

    def refused(self, error, deed, *asked, **more):
        tables, programs = self.house.tables(), self.house.programs()
        with Unchanged(self, asked, more):
            with self.assertRaises(error) as caught:
                deed(*asked, **more)
        self.assertEqual((self.house.tables(), self.house.programs()), (tables, programs))
        return caught.exception

    def test_names_of_tables(self):
        for name in NO_NAMES:
            self.refused(NoTables, self.house.put, name, None)
            self.refused(NoTables, self.house.put, name, ())
            self.refused(NoTables, self.house.lead, name, None, None)
            self.refused(NoTables, self.house.lead, name, PROGRAM, ROOM)

    def test_rows(self):
        for rows in NO_ROWS:
            self.refused(NoTables, self.house.put, "sale", rows)
            self.refused(NoTables, self.house.put, "other", rows)

    def test_missing(self):
        house = self.house
        for name in ANYTHING + NO_NAMES + ["other", "sal"]:
            for deed, asked in ((house.change, (None, None)), (house.change, (0, (1, 1))), (house.put_in, (None, None)),
                                (house.strike, (None,)), (house.strike, (0,)), (house.drop, ()), (house.ask, ()),
                                (house.begin, ())):
                error = self.refused(Missing, deed, name, *asked)
                self.assertEqual(repr(error.name), repr(name))
        for deed in (house.drop, house.ask, house.begin):
            self.assertEqual(self.refused(Missing, deed, "sale").name, "sale")
        for deed, asked in ((house.change, (0, (1, 1))), (house.strike, (0,))):
            self.assertEqual(self.refused(Missing, deed, "report", *asked).name, "report")
        self.assertFalse(house.is_busy())

    def test_numbers(self):
        for number in NO_WHOLE + [-1, len(ROWS), 10 ** 59]:
            self.refused(NoNumber, self.house.change, "sale", number, None)
            self.refused(NoNumber, self.house.strike, "sale", number)
        for number in NO_WHOLE + [-1, len(ROWS) + 1, 10 ** 59]:
            self.refused(NoNumber, self.house.put_in, "sale", number, None)
        self.house.put("more", ())
        for number in (0, 1, -1):
            self.refused(NoNumber, self.house.change, "more", number, (1,))
            self.refused(NoNumber, self.house.strike, "more", number)

    def test_records(self):
        for record in NO_RECORDS + [(1,), (1, 2, 3)]:
            self.refused(NoTables, self.house.change, "sale", 1, record)
            self.refused(NoTables, self.house.put_in, "sale", 1, record)
        self.house.put("more", ((1,),) * 400)
        self.refused(NoTables, self.house.put_in, "more", 400, (1,))
        self.refused(NoTables, self.house.put_in, "more", 0, (1,))
        self.house.put("more", ((1,),))
        for record in [(), (1,) * 10, None, 1]:
            self.refused(NoTables, self.house.change, "more", 0, record)

    def test_unfit(self):
        house = self.house
        for rows in (((10, 0),), ((0, 100),), ((1,),), ((1, 2, 3),), ((1, 1),) * 61):
            error = self.refused(Unfit, house.put, "sale", rows)
            # Of the programs that read it the first one as they rise.
            self.assertEqual(error.name, "all")
        self.assertEqual(self.refused(Unfit, house.put, "names", ((1, 1),) * 21).name, "all")
        self.assertEqual(self.refused(Unfit, house.change, "sale", 3, (10, 0)).name, "all")
        self.assertEqual(self.refused(Unfit, house.put_in, "sale", 3, (-1, 0)).name, "all")
        house.drop("all")
        self.assertEqual(self.refused(Unfit, house.change, "sale", 3, (10, 0)).name, "report")
        house.put("names", ((1, 1),) * 21)
        house.put("sale", ((1, 1),) * 60)
        self.assertEqual(self.refused(Unfit, house.put_in, "sale", 3, (1, 1)).name, "report")
        house.put("sale", ((1, 1),))
        self.assertEqual(self.refused(Unfit, house.change, "sale", 0, (1, 1, 1)).name, "report")
        house.put("sale", ())
        self.assertEqual(self.refused(Unfit, house.put_in, "sale", 0, (1,)).name, "report")

    def test_unfit_with_its_own_name(self):
        house = self.house
        house.put("names", numbered(*range(10)) + numbered(*range(10)))
        program = alone(SALE, ("read", "more", ((0, 9),), 5), ("keep", 0, 1))
        # Unneeded reads are read in tables, too.
        self.assertEqual(self.refused(Unfit, house.lead, "aa", program, 100).name, "aa")
        self.assertEqual(self.refused(Unfit, house.lead, "report", program, 100).name, "report")
        house.put("more", ((1, 2),))
        self.assertEqual(self.refused(Unfit, house.lead, "zz", program, 100).name, "zz")
        narrow = alone(("read", "names", ((0, 9), (0, 99)), 19), ("keep", 0, 1))
        self.assertEqual(self.refused(Unfit, house.lead, "zz", narrow, 100).name, "zz")

    def test_lead(self):
        lead = self.house.lead
        for thing in ANYTHING:
            self.refused(NoProgram, lead, "zz", thing, None)
            self.refused(NoProgram, lead, "zz", thing, None, plan=7)
            if thing is not None:
                self.refused(NoPlan, lead, "zz", PROGRAM, ROOM, plan=thing)
        for room in NO_WHOLE + [-1, 10 ** 6 + 1, 10 ** 59]:
            self.refused(NoNumber, lead, "zz", WIDE, room)
            self.refused(NoNumber, lead, "zz", PROGRAM, room, plan=7)
        self.refused(TooWide, lead, "zz", WIDE, 10 ** 6)
        self.refused(TooWide, lead, "zz", WIDE, 0)
        self.refused(NoPlan, lead, "zz", WIDE, 0, plan=7)
        # A plan that is handed in may be of a program that is too wide.
        ones = tuple(((k, "step"),) for k in range(1, 7))
        self.house.put("sale", ())
        lead("zz", WIDE, 100, plan=((), ones))
        self.refused(NoPlan, lead, "zz", WIDE, 7, plan=((), ones))
        # There is none in a room so narrow, and none of no room at all.
        self.refused(NoPlan, lead, "yy", PROGRAM, 15)
        self.refused(NoPlan, lead, "yy", PROGRAM, 0)
        self.refused(NoPlan, lead, "yy", PROGRAM, 23, plan=PLAN)
        # NoPlan comes ahead of Unfit.
        other = alone(("read", "none", ((0, 9),), 5), ("keep", 0, 1))
        self.refused(NoPlan, lead, "yy", other, 3)
        self.refused(NoPlan, lead, "yy", other, 3, plan=((), ()))
        self.refused(Unfit, lead, "yy", other, 4)
        with self.assertRaises(TypeError):
            lead("zz", PROGRAM, ROOM, PLAN)

    def test_over_where_no_ask_is_on(self):
        house = self.house
        for deed in (house.fall, house.leave, house.finish):
            self.refused(Over, deed)
        for turns in NO_WHOLE + [-1, 0, 1, 10 ** 6]:
            self.refused(Over, house.go, turns)

    def test_turns(self):
        self.house.begin("report")
        for turns in NO_WHOLE + [-1, 10 ** 6 + 1, 10 ** 59]:
            self.refused(NoNumber, self.house.go, turns)
        self.assertEqual(self.house.go(0), 0)
        self.assertEqual(self.house.go(10 ** 6), 19)

    def test_busy_ahead_of_all(self):
        house = self.house
        house.begin("report")
        for turns in (0, 3, 100):
            house.go(turns)
            self.assertTrue(house.is_busy())
            for deed, asked in ((house.put, (None, None)), (house.put, ("more", ())), (house.change, (None, None, None)),
                                (house.change, ("sale", 0, (1, 1))), (house.put_in, ("sale", 0, (1, 1))),
                                (house.put_in, (None, None, None)), (house.strike, ("sale", 0)), (house.strike, (None, 0)),
                                (house.lead, (None, None, None)), (house.lead, ("zz", PROGRAM, ROOM)), (house.drop, ("all",)),
                                (house.drop, (None,)), (house.ask, ("all",)), (house.ask, (None,)), (house.begin, ("report",)),
                                (house.begin, (None,))):
                self.refused(Busy, deed, *asked)
        house.finish()
        self.assertFalse(house.is_busy())
        house.strike("sale", 0)

    def test_by_name(self):
        house = House()
        house.put(rows=((1, 2),), name="sale")
        house.put_in(record=(3, 4), number=1, name="sale")
        house.change(record=(5, 6), number=0, name="sale")
        house.strike(number=1, name="sale")
        self.assertEqual(house.tables(), {"sale": ((5, 6),)})
        house.lead(plan=PLAN, room=ROOM, program=PROGRAM, name="a")
        self.assertEqual(house.ask(name="a")[1], (0, 1))
        house.begin(name="a")
        self.assertEqual(house.go(turns=3), 0)
        house.leave()
        house.drop(name="a")
        self.assertEqual(house.programs(), {})
        self.assertIs(NAMES, KEPT.program[0][1])


if __name__ == "__main__":
    unittest.main()
