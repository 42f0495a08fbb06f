import unittest
from random import Random

from rowhaul.errors import NoNumber, NoProgram, TooWide
from rowhaul.plans.plans import is_plan
from rowhaul.plans.ways import all_ways, parts_of
from rowhaul.plans.words import plan_words
from rowhaul.search.least import least, shows_least
from rowhaul.search.sets import closed_sets
from tests.plans import ROOMS, busy_program, some_plan
from tests.programs import some_program
from tests.searches import all_closed, least_numbers, least_words
from tests.things import ANYTHING, NAMES, NO_WHOLE, SALE, Unchanged, alone, over_sale

UP = ((0, "up"),)
KEEP = ("keep", 0, 1)
SORT = over_sale(("sort", 0, UP))
LOOK = alone(SALE, NAMES, ("look", 0, 1, 0, 0))
ROW = over_sale(("keep", 0, 1), ("sort", 1, UP), ("gather", 2, 1, (("sum", 1),)))
SIDES = (over_sale(KEEP, ("map", 0, (1,)), ("sort", 0, UP))[0], (1, 2, 3))
WIDE = ((SALE,) + (KEEP,) * 6, tuple(range(1, 7)))
WIDE_BY_A_WAY = alone(SALE, NAMES, *[("look", 0, 1, 0, 0)] * 3, outputs=(2, 3, 4))
CAST, MERGE = (1, "cast"), (1, "merge")


def small_programs(seed, many, parts):
    """Programs with at most so many parts by each ways."""
    chance = Random(seed)
    told = []
    while len(told) < many:
        program = busy_program(chance) if chance.random() < 0.7 else some_program(chance)
        if max(len(parts_of(program, ways)) for ways in all_ways(program)) <= parts:
            if all(len(all_closed(program, ways)) <= 60 for ways in all_ways(program)):
                told.append((chance, program))
    return told


class Least(unittest.TestCase):
    def test_reads_alone(self):
        program = alone(SALE, NAMES)
        for room in (0, 7, 10 ** 6):
            self.assertEqual(least(program, room), (((), ()), ((((), 0),),)))
            self.assertEqual(shows_least(program, room, least(program, room)), ("plan", 0))

    def test_a_sort(self):
        plan, tables = least(SORT, 16)
        self.assertEqual(plan, (((1, "half"),), ((CAST,), (MERGE,))))
        # Ahead of the merge 15 runs of 4 become 2: of 8 each is moved three times, of 7 one twice.
        words = 240 + 240 + 4 * (8 * 12 + 6 * 12 + 8)
        self.assertEqual(sum(plan_words(SORT, 16, plan)), words)
        self.assertEqual(tables, ((((), 0), ((CAST,), 240), ((CAST, MERGE), words)), (((), 0),)))
        self.assertEqual(shows_least(SORT, 16, (plan, tables)), ("plan", words))

    def test_in_a_great_room(self):
        plan, tables = least(SORT, 1000)
        self.assertEqual((plan[1], sum(plan_words(SORT, 1000, plan))), (((CAST,), (MERGE,)), 480))
        self.assertEqual(tables, ((((), 0), ((CAST,), 240), ((CAST, MERGE), 480)),) * 2)

    def test_none(self):
        for room in (0, 1, 3, 4, 15):
            self.assertEqual(least(SORT, room), (None, ((((), 0),),) * 2))
            self.assertEqual(shows_least(SORT, room, least(SORT, room)), ("none",))

    def test_passes_are_put_together(self):
        plan, tables = least(ROW, 100)
        self.assertEqual(plan[1], (((1, "step"), (2, "cast")), ((2, "merge"), (3, "step"))))
        self.assertEqual(sum(plan_words(ROW, 100, plan)), 240 + 240)

    def test_one_pass_for_what_reads_one_file(self):
        plan, _ = least(SIDES, 200)
        self.assertEqual(plan[1], (((1, "step"), (2, "step"), (3, "cast")), ((3, "merge"),)))

    def test_the_way_that_moves_fewest(self):
        for room, word in ((60, "blocked"), (400, "kept"), (10 ** 6, "kept")):
            self.assertEqual(least(LOOK, room)[0][0], ((2, word),))
        self.assertEqual(sum(plan_words(LOOK, 10 ** 6, least(LOOK, 10 ** 6)[0])), 120 + 60 + 300)

    def test_a_meet_moves_fewest(self):
        """What is cast where it is made needs no file; a block would have to read both again."""
        copied = (("at", 0), ("at", 1), ("at", 2))
        program = alone(("read", "a", ((0, 9),) * 3, 200), ("read", "b", ((0, 9),) * 3, 200), ("both", 0, 0), ("both", 1, 1),
                        ("map", 2, copied), ("map", 3, copied), ("look", 4, 5, 0, 0))
        words = (1200 + 1600) + (1200 + 1200) + (1600 + 1200 + 2800) + (2800 + 2400)
        for room, word in ((600, "blocked"), (704, "met"), (800, "met"), (900, "blocked"), (6000, "kept")):
            plan, _ = least(program, room)
            self.assertEqual(plan[0], ((6, word),))
            if word == "met":
                self.assertEqual(plan[1], (((2, "both"), (4, "step"), (6, "left")), ((3, "both"), (5, "step"), (6, "right")),
                                           ((6, "meet"),), ((6, "merge"),)))
                self.assertEqual(sum(plan_words(program, room, plan)), words)

    def test_against_all_rows_of_passes(self):
        seen = set()
        for chance, program in small_programs(41, 60, 6):
            for room in chance.sample(ROOMS, 4):
                plan, tables = least(program, room)
                numbers = [least_numbers(program, room, ways) for ways in all_ways(program)]
                self.assertEqual(tables, tuple(tuple(sorted(one.items())) for one in numbers), (program, room))
                words = least_words(program, room)
                if words is None:
                    self.assertIsNone(plan)
                    self.assertEqual(shows_least(program, room, (plan, tables)), ("none",))
                else:
                    self.assertTrue(is_plan(program, room, plan))
                    self.assertEqual(sum(plan_words(program, room, plan)), words)
                    self.assertEqual(shows_least(program, room, (plan, tables)), ("plan", words))
                seen.add(words is None)
        self.assertEqual(seen, {True, False})

    def test_no_drawn_plan_moves_fewer(self):
        chance = Random(42)
        compared = 0
        while compared < 150:
            program = busy_program(chance) if chance.random() < 0.7 else some_program(chance)
            room = chance.choice(ROOMS)
            try:
                plan, tables = least(program, room)
            except TooWide:
                continue
            drawn = [some_plan(chance, program, room) for _ in range(4)]
            for other in drawn:
                if other is not None:
                    words = shows_least(program, room, (plan, tables))[1]
                    more = sum(plan_words(program, room, other))
                    self.assertLessEqual(words, more)
                    self.assertEqual(shows_least(program, room, (other, tables)), ("plan", more) if more == words else None)
                    compared += 1

    def test_in_a_greater_room(self):
        """A plan is one in each greater room, and the least words never rise."""
        seen = 0
        for chance, program in small_programs(43, 40, 10):
            words = None
            plans = []
            for room in range(0, 200, chance.choice((3, 4, 7))):
                told = least(program, room)
                shown = shows_least(program, room, told)
                for plan in plans:
                    self.assertTrue(is_plan(program, room, plan))
                if words is not None:
                    self.assertEqual(shown[0], "plan")
                    self.assertLessEqual(shown[1], words)
                    seen += shown[1] < words
                if shown[0] == "plan":
                    words = shown[1]
                    plans = plans[-2:] + [told[0]]
        self.assertGreater(seen, 30)

    def test_the_same_each_time(self):
        for _, program in small_programs(44, 10, 8):
            self.assertEqual(least(program, 100), least(program, 100))


def numbers_bent(tables, by):
    """The tables, each time with one number that is otherwise, with the place of this one."""
    for at, table in enumerate(tables):
        for place, (one, number) in enumerate(table):
            bent = table[:place] + ((one, number + by),) + table[place + 1:]
            yield at, one, tables[:at] + (bent,) + tables[at + 1:]


class Shows(unittest.TestCase):
    ROOM = 32
    PLAN, TABLES = least(SORT, ROOM)
    WORDS = sum(plan_words(SORT, ROOM, PLAN))
    HALF, QUARTER = TABLES

    def shown(self, thing):
        with Unchanged(self, thing):
            return shows_least(SORT, self.ROOM, thing)

    def test_the_told_one(self):
        self.assertEqual(self.shown((self.PLAN, self.TABLES)), ("plan", self.WORDS))
        self.assertEqual(self.WORDS, 240 + 240 + 4 * (28 + 16))
        self.assertEqual(self.HALF, (((), 0), ((CAST,), 240), ((CAST, MERGE), self.WORDS)))

    def test_a_number_one_more(self):
        for at, one, tables in numbers_bent(self.TABLES, 1):
            self.assertIsNone(self.shown((self.PLAN, tables)))

    def test_a_number_one_less(self):
        for at, one, tables in numbers_bent(self.TABLES, -1):
            # What the quarter comes to is more than the plan moves, so there is room for less.
            is_shown = at == 1 and one == (CAST, MERGE)
            self.assertEqual(self.shown((self.PLAN, tables)), ("plan", self.WORDS) if is_shown else None, (at, one))

    def test_lesser_numbers_show_greater_plans_nothing(self):
        wholes = {table[-1][1] for table in self.TABLES}
        self.assertGreater(max(wholes), self.WORDS)
        tables = (self.HALF, self.QUARTER[:2] + (((CAST, MERGE), self.WORDS),))
        self.assertEqual(self.shown((self.PLAN, tables)), ("plan", self.WORDS))
        tables = (self.HALF, self.QUARTER[:2] + (((CAST, MERGE), self.WORDS - 1),))
        self.assertIsNone(self.shown((self.PLAN, tables)))

    def test_a_plan_of_more_words(self):
        more = (((1, "quarter"),), self.PLAN[1])
        self.assertTrue(is_plan(SORT, self.ROOM, more))
        self.assertIsNone(self.shown((more, self.TABLES)))

    def test_another_plan_of_as_many_words(self):
        tables = least(SORT, 1000)[1]
        for word in ("half", "quarter"):
            self.assertEqual(shows_least(SORT, 1000, ((((1, word),), self.PLAN[1]), tables)), ("plan", 480))

    def test_no_plan_in_its_place(self):
        for thing in ANYTHING + [(), (self.PLAN[0], self.PLAN[1][::-1]), (self.PLAN[0], self.PLAN[1][:1]), list(self.PLAN)]:
            self.assertIsNone(self.shown((thing, self.TABLES)))

    def test_a_set_out(self):
        for at, table in enumerate(self.TABLES):
            for place in range(len(table)):
                less = table[:place] + table[place + 1:]
                self.assertIsNone(self.shown((self.PLAN, self.TABLES[:at] + (less,) + self.TABLES[at + 1:])))

    def test_a_set_twice_and_exchanged(self):
        for bent in (self.HALF + self.HALF[-1:], self.HALF[:1] + self.HALF, self.HALF[::-1],
                     (self.HALF[1], self.HALF[0], self.HALF[2]), (self.HALF[0], self.HALF[2], self.HALF[1]),
                     self.HALF[:2] + self.HALF[1:]):
            self.assertIsNone(self.shown((self.PLAN, (bent, self.QUARTER))))

    def test_what_is_no_closed_set(self):
        for one in (((MERGE,)), (MERGE,), (CAST, CAST), (MERGE, CAST), [CAST], CAST, (1,), ((True, "cast"),), None, "",
                    (CAST, MERGE, (2, "step")), ((0, "step"),), ((1, ["cast"]),)):
            table = tuple(sorted(self.HALF + ((one, 10),), key=repr))
            self.assertIsNone(self.shown((self.PLAN, (table, self.QUARTER))))
            self.assertIsNone(self.shown((self.PLAN, (self.HALF[:1] + ((one, 240),) + self.HALF[2:], self.QUARTER))))

    def test_numbers_that_are_none(self):
        for number in NO_WHOLE + [-1, -(10 ** 59)]:
            for place in range(3):
                table = self.HALF[:place] + ((self.HALF[place][0], number),) + self.HALF[place + 1:]
                self.assertIsNone(self.shown((self.PLAN, (table, self.QUARTER))))
        for number in (False, 1, -1, 10 ** 59):
            self.assertIsNone(self.shown((self.PLAN, ((((), number),) + self.HALF[1:], self.QUARTER))))

    def test_tables_out_and_more(self):
        for tables in ((), self.TABLES[:1], self.TABLES[1:], self.TABLES + self.TABLES[:1], self.TABLES[::-1],
                       list(self.TABLES), (list(self.HALF), self.QUARTER), ((), ()), (self.HALF, ()), None, True, 2,
                       (self.HALF, None), ((self.HALF,), self.QUARTER), tuple((list(pair) for pair in self.HALF))):
            self.assertIsNone(self.shown((self.PLAN, tables)), tables)

    def test_of_anything(self):
        for thing in ANYTHING + [self.PLAN, self.TABLES, [self.PLAN, self.TABLES], (self.PLAN,), (self.TABLES, self.PLAN),
                                 (self.PLAN, self.TABLES, None), (None, self.TABLES), {0: self.PLAN, 1: self.TABLES}]:
            self.assertIsNone(self.shown(thing))

    def test_none_is_shown_where_no_table_has_all(self):
        nothing = ((((), 0),),) * 2
        self.assertEqual(shows_least(SORT, 15, (None, nothing)), ("none",))
        self.assertIsNone(self.shown((None, nothing)))
        # A closed set may stand there that nothing leads to, but not that of all parts.
        more = (((), 0), ((CAST,), 7))
        self.assertEqual(shows_least(SORT, 15, (None, (more, nothing[0]))), ("none",))
        below = (((), 0), ((CAST,), -1))
        self.assertIsNone(shows_least(SORT, 15, (None, (below, nothing[0]))))
        whole = (((), 0), ((CAST, MERGE), 7))
        self.assertIsNone(shows_least(SORT, 15, (None, (whole, nothing[0]))))
        for thing in (self.PLAN, (), False, 0):
            self.assertIsNone(shows_least(SORT, 15, (thing, nothing)))

    def test_reads_alone(self):
        program = alone(SALE)
        self.assertEqual(shows_least(program, 0, (((), ()), ((((), 0),),))), ("plan", 0))
        for thing in ((None, ((((), 0),),)), (((), ()), ()), (((), ()), ((),)), (((), ()), ((((), 1),),)),
                      (((), ((),)), ((((), 0),),))):
            self.assertIsNone(shows_least(program, 0, thing))

    def test_a_paper_of_another_room(self):
        narrow, great = least(SORT, 16), least(SORT, 1000)
        self.assertIsNone(shows_least(SORT, 1000, narrow))
        self.assertIsNone(shows_least(SORT, 16, great))
        # All rooms of one quarter have the same paper.
        for room in (32, 33, 34, 35):
            self.assertEqual(least(SORT, room), (self.PLAN, self.TABLES))

    def test_whatever_paper_shows(self):
        """Papers bent by chance show nothing, or the least."""
        shown = {True: 0, False: 0}
        for chance, program in small_programs(45, 25, 6):
            room = chance.choice(ROOMS)
            plan, tables = least(program, room)
            expected = shows_least(program, room, (plan, tables))
            for _ in range(25):
                bent = [list(table) for table in tables]
                at = chance.randrange(len(bent))
                for _ in range(chance.randint(1, 2)):
                    place = chance.randrange(len(bent[at]))
                    one, number = bent[at][place]
                    bent[at][place] = (one, max(0, number + chance.choice((-100, -1, 1, 3, 100))))
                if chance.random() < 0.2:
                    bent[at].pop()
                told = shows_least(program, room, (plan, tuple(tuple(table) for table in bent)))
                self.assertIn(told, (None, expected))
                shown[told is None] += 1
        self.assertGreater(min(shown.values()), 50)


class Refused(unittest.TestCase):
    def test_no_program(self):
        for thing in ANYTHING:
            with self.assertRaises(NoProgram):
                least(thing, None)
            with self.assertRaises(NoProgram):
                shows_least(thing, None, None)

    def test_no_room(self):
        for program in (SORT, WIDE):
            for thing in NO_WHOLE + [-1, 10 ** 6 + 1, 10 ** 59]:
                with self.assertRaises(NoNumber):
                    least(program, thing)
                with self.assertRaises(NoNumber):
                    shows_least(program, thing, None)

    def test_too_wide(self):
        self.assertEqual(len(closed_sets(WIDE_BY_A_WAY, all_ways(WIDE_BY_A_WAY)[0])), 8)
        for program in (WIDE, WIDE_BY_A_WAY):
            for room in (0, 10 ** 6):
                with self.assertRaises(TooWide):
                    least(program, room)
                for thing in ANYTHING + [(None, ()), (((), ()), ())]:
                    with self.assertRaises(TooWide):
                        shows_least(program, room, thing)

    def test_by_name_and_as_it_was(self):
        with Unchanged(self, SORT):
            paper = least(room=32, program=SORT)
            self.assertEqual(shows_least(thing=paper, room=32, program=SORT), ("plan", 656))


if __name__ == "__main__":
    unittest.main()
