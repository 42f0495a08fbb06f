import unittest

from rowhaul.errors import NoNode, NoProgram, RowsError
from rowhaul.programs import forms
from rowhaul.programs.forms import inputs_of, is_program, most_of, width_of
from tests.things import ANYTHING, LOW, NAMES, SALE, TOP, Unchanged, alone, over_sale


def read(name="a", width=1, most=5):
    return ("read", name, ((0, 9),) * width, most)


def wide(width, name="a"):
    """A program of one node so wide, up to 8."""
    if width <= 4:
        return (read(name, width),)
    return (read(name, 4), ("map", 0, (0,) * width))


WHOLE = (
    (
        ("read", "sale", ((0, 9), (-5, 5)), 60),
        ("read", "names", ((0, 9), (0, 100)), 20),
        ("map", 0, (("at", 1), ("plus", ("at", 0), 1), 7)),
        ("keep", 2, ("less", ("at", 0), 3)),
        ("carry", 3, ("plus", ("was",), ("at", 0)), -4),
        ("sort", 4, ((0, "up"), (2, "down"))),
        ("gather", 5, 2, (("sum", 3), ("count",))),
        ("look", 6, 1, 1, 0),
        ("beside", 1, 1),
        ("first", 7, 12),
    ),
    (6, 9),
)


class IsProgram(unittest.TestCase):
    def yes(self, *things):
        for thing in things:
            self.assertIs(is_program(thing), True, thing)

    def no(self, *things):
        for thing in things:
            self.assertIs(is_program(thing), False, thing)

    def test_bounds_by_name(self):
        self.assertEqual((forms.MOST_NODES, forms.MOST_WIDTH, forms.MOST_ROWS), (10, 8, 400))

    def test_whole(self):
        self.yes(WHOLE)
        self.assertIs(is_program(thing=WHOLE), True)

    def test_of_anything(self):
        for thing in ANYTHING:
            self.assertIs(is_program(thing), False, thing)
            self.assertIs(is_program((thing, (0,))), False, thing)
            self.assertIs(is_program(((read(),), thing)), False, thing)
            self.assertIs(is_program(((thing,), (0,))), False, thing)
            self.assertIs(is_program(((read(), thing), (0,))), False, thing)

    def test_two_parts(self):
        nodes = (read(),)
        self.yes((nodes, (0,)))
        self.no((nodes,), (nodes, (0,), ()), [nodes, (0,)], (list(nodes), (0,)), (nodes, [0]), nodes,
                ((list(nodes[0]),), (0,)))

    def test_one_to_ten_nodes(self):
        for many in range(13):
            nodes = tuple(read("n" + "abcdefghijklm"[k]) for k in range(many))
            self.assertIs(is_program((nodes, (0,))), 1 <= many <= 10, many)

    def test_outputs(self):
        nodes = (read("a"), read("b"), read("c"))
        self.yes((nodes, (0,)), (nodes, (2,)), (nodes, (0, 2)), (nodes, (0, 1, 2)))
        self.no((nodes, ()), (nodes, (3,)), (nodes, (-1,)), (nodes, (1, 0)), (nodes, (1, 1)), (nodes, (0, 2, 1)),
                (nodes, (0, 1, 2, 3)), (nodes, (True,)), (nodes, (False, 1)), (nodes, (None,)), (nodes, ("0",)),
                (nodes, 0), (nodes, {0: 0}), (nodes, ((0,),)), (nodes, (0, 1, 1, 2)))

    def test_words_of_nodes(self):
        self.no(alone(("reads", "a", ((0, 9),), 5)), alone(("", "a", ((0, 9),), 5)), alone((None, "a", ((0, 9),), 5)),
                alone(([], "a", ((0, 9),), 5)), alone((("read",), "a", ((0, 9),), 5)), alone(()), alone(("read",)),
                over_sale(("maps", 0, (0,))), over_sale(("sum", 0, 0)))

    def test_parts_of_nodes(self):
        for node in (("map", 0, (0,)), ("keep", 0, 1), ("carry", 0, 1, 0), ("sort", 0, ((0, "up"),)),
                     ("gather", 0, 1, ()), ("look", 0, 0, 0, 0), ("both", 0, 0), ("beside", 0, 0), ("first", 0, 3)):
            self.yes(over_sale(node))
            self.no(over_sale(node[:-1]), over_sale(node + (0,)), over_sale(node[:1]), over_sale(list(node)),
                    over_sale({k: part for k, part in enumerate(node)}))
        self.no(alone(SALE[:-1]), alone(SALE + (0,)), alone(list(SALE)))

    def test_inputs_are_ahead(self):
        for node in (("map", 0, (0,)), ("keep", 0, 1), ("carry", 0, 1, 0), ("sort", 0, ((0, "up"),)),
                     ("gather", 0, 1, ()), ("look", 0, 0, 0, 0), ("both", 0, 0), ("beside", 0, 0), ("first", 0, 3)):
            places = (1, 2) if node[0] in ("look", "both", "beside") else (1,)
            for place in places:
                def of(i):
                    return over_sale(read("b", 2), node[:place] + (i,) + node[place + 1:], read("c", 2))
                self.yes(of(0), of(1))
                self.no(*[of(i) for i in (-1, 2, 3, 4, True, False, None, "0", (0,), [0], 10 ** 59)])
            self.no(((node, SALE), (0,)))

    def test_read_names(self):
        self.yes(alone(read("a")), alone(read("z")), alone(read("abcdefgh")), alone(read("stuvwxyz")), alone(read("mm")))
        self.no(*[alone(read(name)) for name in ("", "abcdefghi", "A", "aB", "a1", "a b", "a_", " a", "a\n", "`", "{",
                                                 None, 0, True, ("a",), ["a"], {"a": 1}, "x" * 100)])

    def test_two_reads_of_one_name(self):
        self.yes(alone(read("a"), read("b")))
        self.no(alone(read("a"), read("a")), alone(read("a"), read("b", 2), read("a", 2)))

    def test_read_ranges(self):
        def of(ranges):
            return alone(("read", "a", ranges, 5))
        for width in range(7):
            self.assertIs(is_program(of(((0, 9),) * width)), 1 <= width <= 4)
        self.yes(of(((0, 0),)), of(((LOW, TOP),)), of(((-3, -3), (-2, 7))), of(((TOP, TOP), (LOW, LOW))))
        self.no(of(((1, 0),)), of(((0, 9), (1, -1))), of(((LOW - 1, 0),)), of(((0, TOP + 1),)), of(((0,),)),
                of(((0, 1, 2),)), of(((False, 1),)), of(((0, True),)), of(([0, 1],)), of([(0, 1)]), of((0, 1)),
                of(((None, 1),)), of((("0", "1"),)), of(None), of({0: (0, 1)}), of("01"))

    def test_read_most(self):
        self.yes(alone(read(most=0)), alone(read(most=1)), alone(read(most=200)))
        self.no(*[alone(read(most=most)) for most in (-1, 201, 400, True, False, None, "5", (5,), [5], 10 ** 59)])

    def test_map(self):
        for many in range(11):
            self.assertIs(is_program(over_sale(("map", 0, (("at", 1),) * many))), 1 <= many <= 8)
        self.no(*[over_sale(("map", 0, exprs)) for exprs in (
            [0], (("at", 2),), (0, ("at", -1)), (("was",),), (True,), (None,), 0, "00", (("plus", 0),), {0: 0},
            (TOP + 1,), ("at", 0), (0, 1, 2, ["at", 0]))])
        self.yes(over_sale(("map", 0, (("at", 0), ("at", 1), TOP, ("rest", ("at", 0), 0)))))

    def test_keep(self):
        self.yes(*[over_sale(("keep", 0, expr)) for expr in (0, 1, ("at", 0), ("at", 1), ("less", ("at", 0), 3))])
        self.no(*[over_sale(("keep", 0, expr)) for expr in (
            ("at", 2), ("was",), True, None, "at", (0,), (("at", 0),), ["at", 0], TOP + 1)])

    def test_carry(self):
        self.yes(*[over_sale(("carry", 0, ("plus", ("was",), ("at", 1)), begin)) for begin in (0, LOW, TOP)])
        self.yes(over_sale(("carry", 0, 5, 0)), over_sale(("carry", 0, ("at", 0), 0)))
        self.no(*[over_sale(("carry", 0, ("was",), begin)) for begin in (
            LOW - 1, TOP + 1, True, False, None, "0", (0,), ("was",))])
        self.no(*[over_sale(("carry", 0, expr, 0)) for expr in (("at", 2), True, ["was"], ("was", 0), (("was",),))])

    def test_sort(self):
        self.yes(*[over_sale(("sort", 0, keys)) for keys in (
            ((0, "up"),), ((1, "down"),), ((1, "up"), (0, "down")))])
        self.no(*[over_sale(("sort", 0, keys)) for keys in (
            (), ((2, "up"),), ((-1, "up"),), ((0, "up"), (0, "down")), ((0, "up"), (1, "up"), (0, "up")),
            ((0, "Up"),), ((0, ""),), ((0, None),), ((0, ["up"]),), ((True, "up"),), ((False, "up"),),
            ((None, "up"),), ((0,),), ((0, "up", 1),), ([0, "up"],), [(0, "up")], (0, "up"), ("up", 0), None, 0,
            {0: "up"}, ((0, "up"), None), (([0], "up"),))])
        keys = tuple((k, "up") for k in range(6))
        for many in range(7):
            told = is_program(alone(*wide(6), ("sort", 1, keys[:many])))
            self.assertIs(told, 1 <= many <= 4)

    def test_gather(self):
        self.yes(*[over_sale(("gather", 0, many, folds)) for many, folds in (
            (0, (("count",),)), (1, ()), (2, ()), (2, (("sum", 0), ("least", 1), ("most", 0), ("last", 1))),
            (0, (("count",), ("count",))))])
        self.no(*[over_sale(("gather", 0, many, folds)) for many, folds in (
            (0, ()), (3, ()), (-1, (("count",),)), (-1, (("count",), ("count",))), (True, ()), (False, (("count",),)), (None, (("count",),)),
            ("1", ()), (1, (("sum", 2),)), (1, (("sum", -1),)), (1, (("sum", True),)), (1, [("count",)]),
            (1, ("count",)), (1, (("count", 0),)), (1, None), (1, "count"), (1, (["count"],)),
            (1, (("count",),) * 5))])
        for many in range(7):
            folds = (("count",),) * many
            self.assertIs(is_program(over_sale(("gather", 0, 0, folds))), 1 <= many <= 4)
        self.yes(alone(*wide(8), ("gather", 1, 8, ())), alone(*wide(8), ("gather", 1, 4, (("count",),) * 4)))
        self.no(alone(*wide(8), ("gather", 1, 8, (("count",),))), alone(*wide(8), ("gather", 1, 5, (("sum", 0),) * 4)))

    def test_look(self):
        def of(c, d):
            return alone(SALE, NAMES, ("look", 0, 1, c, d))
        self.yes(of(0, 0), of(1, 2), of(0, 2), of(1, 0))
        self.no(of(2, 0), of(-1, 0), of(0, 3), of(0, -1), of(True, 0), of(0, True), of(None, 0), of(0, "0"), of([0], 0),
                of(0, (0,)))
        self.yes(over_sale(("look", 0, 0, 1, 0)))

    def test_both(self):
        self.yes(alone(SALE, read("b", 2), ("both", 0, 1)), over_sale(("both", 0, 0)))
        self.no(alone(SALE, NAMES, ("both", 0, 1)), alone(SALE, read("b", 1), ("both", 1, 0)))

    def test_beside(self):
        self.yes(alone(SALE, NAMES, ("beside", 0, 1)), over_sale(("beside", 0, 0)))

    def test_first(self):
        self.yes(*[over_sale(("first", 0, n)) for n in (0, 1, 60, 61, 400)])
        self.no(*[over_sale(("first", 0, n)) for n in (-1, 401, True, False, None, "3", (3,), [3], 10 ** 59)])

    def test_widths_up_to_eight(self):
        for width in (4, 5, 7, 8):
            nodes = wide(width)
            last = len(nodes) - 1
            self.yes(alone(*nodes))
            self.assertIs(is_program(alone(*nodes, ("carry", last, 0, 0))), width + 1 <= 8)
            self.assertIs(is_program(alone(*nodes, ("look", last, 0, 0, 0))), width + 4 <= 8)
            self.assertIs(is_program(alone(*nodes, ("beside", 0, last))), width + 4 <= 8)

    def test_mosts_up_to_four_hundred(self):
        self.yes(alone(read("a", 1, 200), read("b", 1, 200), ("both", 0, 1)))
        self.yes(alone(read("a", 1, 200), ("both", 0, 0), ("first", 1, 400)))
        self.no(alone(read("a", 1, 200), ("both", 0, 0), read("b", 1, 1), ("both", 1, 2)))
        self.no(alone(read("a", 1, 200), ("both", 0, 0), ("both", 1, 1)))
        self.yes(alone(read("a", 1, 200), ("both", 0, 0), ("first", 1, 200), ("both", 2, 2)))
        self.no(alone(read("a", 1, 200), ("both", 0, 0), ("first", 1, 201), ("both", 2, 1)))
        self.yes(alone(read("a", 1, 200), ("both", 0, 0), read("b", 1, 1), ("beside", 1, 2), ("both", 3, 3)))

    def test_three_sorts_and_looks(self):
        sort, look = ("sort", 0, ((0, "up"),)), ("look", 0, 0, 0, 0)
        for some in ((sort, sort, sort), (look, look, look), (sort, look, sort), (look, look), ()):
            self.yes(over_sale(*some))
        for some in ((sort,) * 4, (look,) * 4, (sort, look, look, sort), (sort,) * 5):
            self.no(over_sale(*some))

    def test_what_is_not_used_is_checked_too(self):
        self.no(alone(SALE, ("keep", 0, ("at", 2)), outputs=(0,)))


class OfNodes(unittest.TestCase):
    def test_widths(self):
        told = [width_of(WHOLE, node) for node in range(10)]
        self.assertEqual(told, [2, 2, 3, 3, 4, 4, 4, 6, 4, 6])
        more = alone(SALE, NAMES, ("both", 0, 0), ("gather", 1, 0, (("count",),)), ("gather", 1, 3, ()),
                     ("beside", 1, 0), ("map", 1, (0,)), ("carry", 1, 0, 0))
        self.assertEqual([width_of(more, node) for node in range(8)], [2, 3, 2, 1, 3, 5, 1, 4])

    def test_mosts(self):
        told = [most_of(WHOLE, node) for node in range(10)]
        self.assertEqual(told, [60, 20, 60, 60, 60, 60, 60, 60, 20, 12])
        more = alone(SALE, NAMES, ("both", 0, 0), ("both", 0, 2), ("beside", 0, 1), ("beside", 1, 0), ("first", 1, 20),
                     ("first", 1, 21), ("first", 1, 19), ("first", 1, 0))
        self.assertEqual([most_of(more, node) for node in range(10)], [60, 20, 120, 180, 20, 20, 20, 20, 19, 0])
        none = alone(read(most=0), ("gather", 0, 0, (("count",),)))
        self.assertEqual([most_of(none, node) for node in range(2)], [0, 0])
        others = alone(SALE, NAMES, ("look", 1, 0, 0, 0), ("sort", 1, ((0, "up"),)), ("keep", 1, 0), ("map", 1, (0,)))
        self.assertEqual([most_of(others, node) for node in range(6)], [60, 20, 20, 20, 20, 20])

    def test_inputs(self):
        told = [inputs_of(WHOLE, node) for node in range(10)]
        self.assertEqual(told, [(), (), (0,), (2,), (3,), (4,), (5,), (6, 1), (1, 1), (7,)])
        self.assertEqual(inputs_of(alone(SALE, read("b", 2), ("both", 1, 0)), 2), (1, 0))

    def test_refused(self):
        for ask in (width_of, most_of, inputs_of):
            for program in ANYTHING + [(WHOLE[0], (10,)), list(WHOLE)]:
                for node in (0, 99, None, True):
                    with self.assertRaises(NoProgram):
                        ask(program, node)
            for node in (-1, 10, 10 ** 59, True, False, None, "0", (0,), [0], {"a": [1]}):
                with self.assertRaises(NoNode) as caught:
                    ask(WHOLE, node)
                self.assertEqual(repr(caught.exception.node), repr(node))
                self.assertIsInstance(caught.exception, IndexError)
                self.assertNotIsInstance(caught.exception, RowsError)
            for node in [thing for thing in ANYTHING if repr(thing) not in ("0", "1", "2", "7")]:
                with self.assertRaises(NoNode) as caught:
                    ask(WHOLE, node)
                self.assertEqual(repr(caught.exception.node), repr(node))

    def test_what_was_asked_is_kept_as_a_copy(self):
        node = [[1]]
        with self.assertRaises(NoNode) as caught:
            width_of(WHOLE, node)
        node[0].append(2)
        self.assertEqual(caught.exception.node, [[1]])

    def test_by_name(self):
        self.assertEqual(width_of(node=2, program=WHOLE), 3)
        self.assertEqual(most_of(node=1, program=WHOLE), 20)
        self.assertEqual(inputs_of(node=7, program=WHOLE), (6, 1))

    def test_stays_as_it_was(self):
        thing = ([list(node) for node in WHOLE[0]], [0])
        with Unchanged(self, thing, WHOLE):
            is_program(thing)
            width_of(WHOLE, 3)
            most_of(WHOLE, 3)


class IsTables(unittest.TestCase):
    PROGRAM = alone(("read", "sale", ((0, 9), (-5, 5)), 3), ("read", "names", ((7, 7),), 1), ("both", 0, 0))

    def tables(self, sale=((0, -5), (9, 5)), names=((7,),)):
        return {"sale": sale, "names": names}

    def told(self, thing):
        return forms.is_tables(self.PROGRAM, thing)

    def test_tables(self):
        self.assertIs(self.told(self.tables()), True)
        self.assertIs(self.told(self.tables((), ())), True)
        self.assertIs(self.told(self.tables(((1, 1),) * 3)), True)
        self.assertIs(forms.is_tables(thing=self.tables(), program=self.PROGRAM), True)
        self.assertIs(forms.is_tables(alone(read(most=0)), {"a": ()}), True)
        self.assertIs(forms.is_tables(alone(read(most=0)), {"a": ((1,),)}), False)

    def test_a_name_out(self):
        for name in ("sale", "names"):
            tables = self.tables()
            del tables[name]
            self.assertIs(self.told(tables), False)
        self.assertIs(self.told({}), False)

    def test_other_keys(self):
        for thing in ANYTHING:
            self.assertIs(self.told({**self.tables(), "other": thing, 3: thing, "SALE": thing}), True)

    def test_rows_of_anything(self):
        for thing in ANYTHING:
            self.assertIs(self.told(self.tables(sale=thing)), thing == (), thing)
            self.assertIs(self.told(self.tables(sale=(thing,))), thing == (1, 2), thing)
            self.assertIs(self.told(self.tables(sale=((0, 0), thing))), thing == (1, 2), thing)
            self.assertIs(self.told(self.tables(sale=((0, thing),))), repr(thing) in ("0", "1", "2", "-1"), thing)

    def test_ranges(self):
        for record, fits in (((0, -5), True), ((9, 5), True), ((-1, 0), False), ((10, 0), False), ((0, -6), False),
                             ((0, 6), False), ((10 ** 59, 0), False)):
            self.assertIs(self.told(self.tables(((1, 1), record))), fits, record)
        for word in (6, 8, True):
            self.assertIs(self.told(self.tables(names=((word,),))), False)

    def test_widths(self):
        for rows in (((1,),), ((1, 1, 1),), ((1, 1), (1,)), ((),), ((1, 1), (1, 1, 1))):
            self.assertIs(self.told(self.tables(rows)), False)

    def test_kinds(self):
        for rows in ([(1, 1)], ([1, 1],), {0: (1, 1)}, ((True, 1),), ((1, False),), ((1, None),), ((1, "1"),), None, 0):
            self.assertIs(self.told(self.tables(rows)), False, rows)

    def test_mosts(self):
        self.assertIs(self.told(self.tables(((1, 1),) * 4)), False)
        self.assertIs(self.told(self.tables(names=((7,),) * 2)), False)

    def test_of_anything(self):
        for thing in ANYTHING:
            self.assertIs(self.told(thing), False, thing)
        self.assertIs(forms.is_tables(alone(read("at", 1)), {"at": 0}), False)

    def test_no_program_ahead(self):
        for program in ANYTHING:
            for thing in ({}, None, self.tables()):
                with self.assertRaises(NoProgram):
                    forms.is_tables(program, thing)

    def test_stays_as_it_was(self):
        tables = {**self.tables(), "other": [1, [2]]}
        with Unchanged(self, tables, self.PROGRAM):
            self.told(tables)


if __name__ == "__main__":
    unittest.main()
