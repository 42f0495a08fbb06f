import unittest

from rowhaul.errors import NoNode, NoProgram
from rowhaul.machine.steps import step_begin, step_end, stepped
from rowhaul.programs.plain import plain
from tests.programs import with_tables
from tests.things import ANYTHING, LOW, TOP, Unchanged, alone, over_sale

A, B = ("at", 0), ("at", 1)
UP = ((0, "up"),)
OVER = ("over", 6, A)
TIMES = ("times", A, 2)


def step_of(node):
    return over_sale(node)


class Begin(unittest.TestCase):
    def test_carry(self):
        self.assertEqual(step_begin(step_of(("carry", 0, A, 7)), 1), ((7,),))
        self.assertEqual(step_begin(step_of(("carry", 0, A, LOW)), 1), ((LOW,),))
        self.assertEqual(step_begin(step_of(("carry", 0, A, 0)), 1), ((0,),))

    def test_all_others(self):
        for node in (("map", 0, (A,)), ("keep", 0, A), ("gather", 0, 1, ()), ("first", 0, 3), ("sort", 0, UP),
                     ("look", 0, 0, 0, 0)):
            self.assertEqual(step_begin(step_of(node), 1), ())


class Stepped(unittest.TestCase):
    def told(self, node, held, record, number, expected, table=()):
        program = step_of(node)
        for _ in range(2):
            self.assertEqual(stepped(program, 1, held, record, number, table=table), expected)

    def test_map(self):
        node = ("map", 0, (B, 7, ("minus", A, B)))
        self.told(node, (), (3, 10), 0, ("on", (), (10, 7, -7)))
        self.told(node, (), (3, 10), 99, ("on", (), (10, 7, -7)))

    def test_map_falls(self):
        self.told(("map", 0, (1, OVER)), (), (0, 1), 4, ("fault", "nought"))
        self.told(("map", 0, (TIMES,)), (), (TOP, 1), 4, ("fault", "great"))
        self.told(("map", 0, (TIMES, OVER)), (), (TOP, 1), 0, ("fault", "great"))
        self.told(("map", 0, (("over", 1, B), TIMES)), (), (TOP, 0), 0, ("fault", "nought"))

    def test_keep(self):
        self.told(("keep", 0, ("less", A, 3)), (), (2, 5), 0, ("on", (), (2, 5)))
        self.told(("keep", 0, ("less", A, 3)), (), (3, 5), 0, ("on", (), None))
        self.told(("keep", 0, A), (), (-1, 5), 8, ("on", (), (-1, 5)))
        self.told(("keep", 0, A), (), (0, 5), 8, ("on", (), None))

    def test_keep_falls(self):
        self.told(("keep", 0, OVER), (), (0, 5), 8, ("fault", "nought"))
        self.told(("keep", 0, TIMES), (), (LOW, 5), 8, ("fault", "great"))

    def test_carry(self):
        node = ("carry", 0, ("plus", ("was",), A), 100)
        self.told(node, ((100,),), (3, 5), 0, ("on", ((103,),), (3, 5, 103)))
        self.told(node, ((103,),), (-4, 5), 1, ("on", ((99,),), (-4, 5, 99)))
        self.told(node, ((-8,),), (0, 5), 1, ("on", ((-8,),), (0, 5, -8)))

    def test_carry_falls(self):
        self.told(("carry", 0, ("plus", ("was",), A), 0), ((TOP,),), (1, 5), 3, ("fault", "great"))
        self.told(("carry", 0, ("over", A, ("was",)), 1), ((0,),), (1, 5), 3, ("fault", "nought"))
        self.told(("carry", 0, ("over", A, ("was",)), 0), ((1,),), (1, 5), 0, ("on", ((1,),), (1, 5, 1)))

    def test_sort_idle_or_not(self):
        self.told(("sort", 0, UP), (), (3, 5), 7, ("on", (), (3, 5)))
        program = over_sale(("sort", 0, UP), ("sort", 1, UP))
        self.assertEqual(stepped(program, 2, (), (3, 5), 7), ("on", (), (3, 5)))

    def test_first(self):
        for number, told in ((0, (3, 5)), (1, (3, 5)), (2, (3, 5)), (3, None), (4, None), (399, None)):
            self.told(("first", 0, 3), (), (3, 5), number, ("on", (), told))
        self.told(("first", 0, 0), (), (3, 5), 0, ("on", (), None))
        self.told(("first", 0, 400), (), (3, 5), 399, ("on", (), (3, 5)))

    def test_look(self):
        node = ("look", 0, 0, 1, 0)
        table = ((5, 1), (4, 2), (5, 3), (7, 4))
        self.told(node, (), (9, 5), 0, ("on", (), (9, 5, 5, 1)), table)
        self.told(node, (), (9, 4), 0, ("on", (), (9, 4, 4, 2)), table)
        self.told(node, (), (9, 7), 6, ("on", (), (9, 7, 7, 4)), table)
        self.told(node, (), (5, 9), 0, ("on", (), None), table)
        self.told(node, (), (9, 5), 0, ("on", (), None), ())
        self.assertEqual(stepped(step_of(node), 1, (), (9, 5), 0), ("on", (), None))

    def test_gather(self):
        node = ("gather", 0, 1, (("sum", 1), ("count",), ("least", 1), ("most", 1), ))
        self.told(node, (), (3, 5), 0, ("on", ((3, 5, 1, 5, 5),), None))
        self.told(node, ((3, 5, 1, 5, 5),), (3, -2), 1, ("on", ((3, 3, 2, -2, 5),), None))
        self.told(node, ((3, 3, 2, -2, 5),), (4, 1), 2, ("on", ((4, 1, 1, 1, 1),), (3, 3, 2, -2, 5)))
        self.told(node, ((3, 5, 1, 5, 5),), (2, 5), 1, ("on", ((2, 5, 1, 5, 5),), (3, 5, 1, 5, 5)))

    def test_gather_with_no_columns_and_with_no_folds(self):
        self.told(("gather", 0, 0, (("last", 1),)), (), (3, 5), 0, ("on", ((5,),), None))
        self.told(("gather", 0, 0, (("last", 1),)), ((5,),), (4, 6), 0, ("on", ((6,),), None))
        self.told(("gather", 0, 2, ()), ((3, 5),), (3, 5), 1, ("on", ((3, 5),), None))
        self.told(("gather", 0, 2, ()), ((3, 5),), (3, 6), 1, ("on", ((3, 6),), (3, 5)))

    def test_gather_falls(self):
        node = ("gather", 0, 1, (("count",), ("sum", 1)))
        self.told(node, ((3, 1, TOP),), (3, 0), 1, ("on", ((3, 2, TOP),), None))
        self.told(node, ((3, 1, TOP - 1),), (3, 1), 1, ("on", ((3, 2, TOP),), None))
        self.told(node, ((3, 1, TOP),), (3, 1), 1, ("fault", "great"))
        self.told(node, ((3, 1, LOW),), (3, 0), 1, ("on", ((3, 2, LOW),), None))
        self.told(node, ((3, 1, LOW),), (3, -1), 1, ("fault", "great"))
        self.told(node, ((3, 1, TOP),), (4, 1), 1, ("on", ((4, 1, 1),), (3, 1, TOP)))


class End(unittest.TestCase):
    def test_gather(self):
        program = step_of(("gather", 0, 1, (("count",),)))
        self.assertEqual(step_end(program, 1, ((3, 4),)), (3, 4))
        self.assertEqual(step_end(program, 1, ((3, 4),)), (3, 4))
        self.assertIsNone(step_end(program, 1, ()))

    def test_all_others(self):
        for node, held in ((("carry", 0, A, 7), ((7,),)), (("map", 0, (A,)), ()), (("keep", 0, A), ()),
                           (("first", 0, 3), ()), (("sort", 0, UP), ()), (("look", 0, 0, 0, 0), ())):
            self.assertIsNone(step_end(step_of(node), 1, held))


class Refused(unittest.TestCase):
    PROGRAM = over_sale(("both", 0, 0), ("beside", 0, 0), ("keep", 0, 1))
    NOT_THERE = [thing for thing in ANYTHING if repr(thing) not in ("3",)] + [4, 10, (3,), "3", [3], -3]

    def asks(self):
        return ((lambda program, k: step_begin(program, k)),
                (lambda program, k: stepped(program, k, (), (1, 2), 0)),
                (lambda program, k: stepped(program, k, None, None, None, table=None)),
                (lambda program, k: step_end(program, k, ())),
                (lambda program, k: step_end(program, k, None)))

    def test_nodes(self):
        for ask in self.asks():
            for thing in self.NOT_THERE:
                with self.assertRaises(NoNode) as caught:
                    ask(self.PROGRAM, thing)
                self.assertEqual(repr(caught.exception.node), repr(thing))

    def test_reads_both_beside(self):
        for ask in self.asks():
            for k in (0, 1, 2):
                with self.assertRaises(NoNode) as caught:
                    ask(self.PROGRAM, k)
                self.assertEqual(caught.exception.node, k)

    def test_programs_ahead(self):
        for ask in self.asks():
            for thing in ANYTHING:
                for k in (3, None, thing):
                    with self.assertRaises(NoProgram):
                        ask(thing, k)

    def test_by_name_and_as_it_was(self):
        program = step_of(("carry", 0, ("plus", ("was",), A), 1))
        held, record = ((4,),), (2, 3)
        with Unchanged(self, program, held, record):
            self.assertEqual(step_begin(k=1, program=program), ((1,),))
            self.assertEqual(stepped(number=0, record=record, held=held, k=1, program=program, table=()),
                             ("on", ((6,),), (2, 3, 6)))
            self.assertIsNone(step_end(held=held, k=1, program=program))


class Whole(unittest.TestCase):
    """Each node stepped through, against what plain tells of it."""

    def test_many(self):
        seen = set()
        for program, tables in with_tables(500, 9):
            nodes, _ = program
            rows = []
            for k, node in enumerate(nodes):
                want = plain((nodes[:k + 1], (k,)), tables)
                if node[0] not in ("map", "keep", "carry", "gather", "first", "look"):
                    if want[0] == "fault":
                        break
                    rows.append(want[1][0])
                    continue
                table = rows[node[2]] if node[0] == "look" else ()
                told = self.walked(program, k, rows[node[1]], table)
                seen.add((node[0], told[0]))
                self.assertEqual(told, want)
                if told[0] == "fault":
                    break
                rows.append(told[1][0])
        self.assertEqual(len(seen), 10)

    def walked(self, program, k, rows, table):
        held = step_begin(program, k)
        made = []
        for number, record in enumerate(rows):
            told = stepped(program, k, held, record, number, table=table)
            if told[0] == "fault":
                return ("fault", (k, number, told[1]))
            held = told[1]
            made.append(told[2])
        made.append(step_end(program, k, held))
        return ("rows", (tuple(record for record in made if record is not None),))


if __name__ == "__main__":
    unittest.main()
