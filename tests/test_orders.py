import unittest

from rowhaul.errors import NoNode, NoProgram
from rowhaul.knowing.orders import is_idle, order_of
from rowhaul.programs.plain import rows_of
from tests.programs import with_tables
from tests.things import ANYTHING, alone

READ = ("read", "a", ((0, 3), (0, 3), (0, 3)), 9)
OTHER = ("read", "b", ((0, 3), (0, 3), (0, 3)), 9)
UP0, DOWN1, UP2 = (0, "up"), (1, "down"), (2, "up")


def behind(*nodes):
    """A program of two reads (0, 1), a sort by three keys (2), and some nodes."""
    return alone(READ, OTHER, ("sort", 0, (UP2, UP0, DOWN1)), *nodes)


class Orders(unittest.TestCase):
    def told(self, *nodes):
        program = behind(*nodes)
        return order_of(program, len(program[0]) - 1)

    def test_read_and_both(self):
        self.assertEqual(order_of(behind(), 0), ())
        self.assertEqual(self.told(("both", 0, 1)), ())
        self.assertEqual(self.told(("both", 2, 2)), ())

    def test_sort(self):
        self.assertEqual(order_of(behind(), 2), (UP2, UP0, DOWN1))
        self.assertEqual(self.told(("sort", 1, (DOWN1,))), (DOWN1,))

    def test_a_sort_behind_a_sort(self):
        self.assertEqual(self.told(("sort", 2, (DOWN1,))), (DOWN1, UP2, UP0))
        self.assertEqual(self.told(("sort", 2, ((0, "down"),))), ((0, "down"), UP2, DOWN1))
        self.assertEqual(self.told(("sort", 2, (UP0, UP2))), (UP0, UP2, DOWN1))
        self.assertEqual(self.told(("sort", 2, (UP0,)), ("sort", 3, (DOWN1,))), (DOWN1, UP0, UP2))

    def test_those_that_keep_the_order_of_i(self):
        for node in (("keep", 2, ("at", 0)), ("carry", 2, ("was",), 0), ("first", 2, 3), ("look", 2, 1, 0, 0),
                     ("beside", 2, 1), ("look", 2, 2, 0, 0), ("beside", 2, 2)):
            self.assertEqual(self.told(node), (UP2, UP0, DOWN1), node)
        for node in (("look", 1, 2, 0, 0), ("beside", 1, 2), ("keep", 1, 1), ("first", 0, 0), ("carry", 0, 1, 1)):
            self.assertEqual(self.told(node), (), node)

    def test_copies_by_a_map(self):
        at = [("at", k) for k in range(3)]
        self.assertEqual(self.told(("map", 2, (at[0], at[1], at[2]))), (UP2, UP0, DOWN1))
        self.assertEqual(self.told(("map", 2, (7, at[2], at[0]))), ((1, "up"), (2, "up")))
        self.assertEqual(self.told(("map", 2, (at[2], at[1]))), ((0, "up"),))
        self.assertEqual(self.told(("map", 2, (at[2], at[2], at[0], at[2], at[0]))), ((0, "up"), (2, "up")))
        self.assertEqual(self.told(("map", 2, (at[0], at[1]))), ())
        self.assertEqual(self.told(("map", 2, (("plus", at[2], 0), at[0]))), ())
        self.assertEqual(self.told(("map", 2, (("plus", at[2], 0), at[2], at[1], at[0]))),
                         ((1, "up"), (3, "up"), (2, "down")))
        self.assertEqual(self.told(("map", 1, (at[0],))), ())

    def test_columns_of_a_gather(self):
        count = (("count",),)
        self.assertEqual(self.told(("gather", 2, 3, count)), (UP2, UP0, DOWN1))
        self.assertEqual(self.told(("gather", 2, 2, count)), ())
        self.assertEqual(self.told(("sort", 2, (UP0,)), ("gather", 3, 1, count)), (UP0,))
        self.assertEqual(self.told(("sort", 2, (UP0,)), ("gather", 3, 2, count)), (UP0,))
        self.assertEqual(self.told(("sort", 2, (UP0, DOWN1)), ("gather", 3, 2, ())), (UP0, DOWN1))
        self.assertEqual(self.told(("sort", 2, (DOWN1, UP2)), ("gather", 3, 2, ())), (DOWN1,))
        self.assertEqual(self.told(("sort", 2, (UP0,)), ("gather", 3, 0, count)), ())

    def test_rows_stand_so(self):
        seen = set()
        for program, tables in with_tables(500, 11):
            for node, (word, *_) in enumerate(program[0]):
                rows = rows_of(program, tables, node)
                order = order_of(program, node)
                if order:
                    seen.add(word)
                if rows is not None:
                    keys = [[row[k] if way == "up" else -row[k] for k, way in order] for row in rows]
                    self.assertEqual(keys, sorted(keys), (program, tables, node))
                if rows is not None and is_idle(program, node):
                    self.assertEqual(rows, rows_of(program, tables, program[0][node][1]))
                    seen.add("idle")
        self.assertEqual(seen, {"sort", "keep", "carry", "first", "look", "beside", "map", "gather", "idle"})

    def test_refused_and_by_name(self):
        program = behind()
        for ask in (order_of, is_idle):
            for thing in ANYTHING:
                for node in (0, None):
                    with self.assertRaises(NoProgram):
                        ask(thing, node)
                if repr(thing) not in ("0", "1", "2"):
                    with self.assertRaises(NoNode) as caught:
                        ask(program, thing)
                    self.assertEqual(repr(caught.exception.node), repr(thing))
            with self.assertRaises(NoNode):
                ask(program, 3)
        self.assertEqual(order_of(node=2, program=program), (UP2, UP0, DOWN1))
        self.assertIs(is_idle(node=2, program=program), False)


class Idle(unittest.TestCase):
    def told(self, *nodes):
        program = behind(*nodes)
        return is_idle(program, len(program[0]) - 1)

    def test_idle_ones(self):
        for keys in ((UP2,), (UP2, UP0), (UP2, UP0, DOWN1)):
            self.assertIs(self.told(("sort", 2, keys)), True, keys)
            self.assertIs(self.told(("keep", 2, 1), ("sort", 3, keys)), True, keys)
        self.assertIs(self.told(("map", 2, (5, ("at", 2))), ("sort", 3, ((1, "up"),))), True)

    def test_those_that_are_not(self):
        self.assertIs(self.told(), False)
        for keys in ((UP0,), (UP2, DOWN1), ((2, "down"),), (UP2, (0, "down")), (UP0, UP2), (DOWN1, UP2, UP0)):
            self.assertIs(self.told(("sort", 2, keys)), False, keys)
        self.assertIs(self.told(("sort", 2, (UP0,)), ("sort", 3, (UP2,))), False)

    def test_a_key_more(self):
        self.assertIs(self.told(("sort", 1, (UP2,)), ("sort", 3, (UP2, UP0))), False)
        self.assertIs(self.told(("carry", 2, 0, 0), ("sort", 3, (UP2, UP0, DOWN1, (3, "up")))), False)

    def test_no_sort(self):
        for node in (("keep", 2, 1), ("map", 2, (("at", 2),)), ("both", 2, 2), ("beside", 2, 2), ("look", 2, 2, 0, 0),
                     ("first", 2, 1), ("gather", 2, 3, ()), ("carry", 2, 0, 0)):
            self.assertIs(self.told(node), False, node)
        for node in (0, 1):
            self.assertIs(is_idle(behind(), node), False)


if __name__ == "__main__":
    unittest.main()
