import unittest
from itertools import product

from rowhaul.errors import Falls, NoProgram
from rowhaul.knowing.ranges import needed, ranges_of, safe_nodes, shows_ranges
from rowhaul.programs.plain import rows_of
from rowhaul.words.exprs import worth
from tests.programs import many_programs, with_tables
from tests.things import ANYTHING, LOW, TOP, Unchanged, alone

ONE, OTHER = ("at", 0), ("at", 1)
EVERY = (LOW, TOP)


def read(*ranges, most=10, name="a"):
    return ("read", name, ranges, most)


def of_op(op, one, other):
    """The range of an op of two columns, and whether it is safe."""
    program = alone(read(one, other), ("map", 0, ((op, ONE, OTHER),)))
    return ranges_of(program)[1][0], 1 in safe_nodes(program)


class Exprs(unittest.TestCase):
    def told(self, op, one, other, expected, safe=True):
        self.assertEqual(of_op(op, one, other), (expected, safe), (op, one, other))

    def test_words_and_columns(self):
        program = alone(read((3, 5), (-2, 0)), ("map", 0, (("at", 1), 7, ("at", 0), LOW)))
        self.assertEqual(ranges_of(program), (((3, 5), (-2, 0)), ((-2, 0), (7, 7), (3, 5), (LOW, LOW))))
        self.assertEqual(safe_nodes(program), (0, 1))

    def test_plus(self):
        self.told("plus", (1, 2), (10, 20), (11, 22))
        self.told("plus", (-3, 2), (-10, 20), (-13, 22))
        self.told("plus", (-3, -2), (-10, -7), (-13, -9))

    def test_minus(self):
        self.told("minus", (1, 2), (10, 20), (-19, -8))
        self.told("minus", (-3, 2), (-10, 20), (-23, 12))
        self.told("minus", (-3, -2), (-10, -7), (4, 8))

    def test_times(self):
        self.told("times", (2, 3), (10, 20), (20, 60))
        self.told("times", (-2, 3), (10, 20), (-40, 60))
        self.told("times", (-2, 3), (-10, 20), (-40, 60))
        self.told("times", (-5, 3), (-10, 2), (-30, 50))
        self.told("times", (-3, -2), (-10, -7), (14, 30))
        self.told("times", (-3, 2), (0, 0), (0, 0))

    def test_less_and_same(self):
        for op in ("less", "same"):
            self.told(op, (1, 1), (5, 5), (0, 1))
            self.told(op, (-3, 8), (5, 5), (0, 1))
            self.told(op, EVERY, EVERY, (0, 1))

    def test_ends_that_are_no_words(self):
        self.told("plus", (0, TOP - 1), (0, 1), (0, TOP))
        self.told("plus", (0, TOP), (0, 1), (0, TOP), False)
        self.told("plus", (LOW + 1, 0), (-1, 0), (LOW, 0))
        self.told("plus", (LOW, 0), (-1, 0), (LOW, 0), False)
        self.told("minus", (0, TOP), (-1, 0), (0, TOP), False)
        self.told("minus", (0, TOP), (0, TOP), EVERY)
        self.told("minus", (LOW, 0), (0, 1), (LOW, 0), False)
        self.told("times", (0, 10 ** 5), (0, 10 ** 4), (0, TOP))
        self.told("times", (0, 10 ** 5), (0, 10 ** 4 + 1), (0, TOP), False)
        self.told("times", (-(10 ** 5), 0), (0, 10 ** 4), (LOW, 0))
        self.told("times", (-(10 ** 5) - 1, 0), (0, 10 ** 4), (LOW, 0), False)
        self.told("plus", (TOP, TOP), (1, 2), (TOP, TOP), False)
        self.told("plus", (LOW, LOW), (-2, -1), (LOW, LOW), False)

    def test_over(self):
        self.told("over", (10, 20), (2, 3), (3, 10))
        self.told("over", (-10, 20), (2, 3), (-5, 10))
        self.told("over", (-20, -10), (2, 3), (-10, -4))
        self.told("over", (10, 20), (-3, -2), (-10, -4))
        self.told("over", (-20, -10), (-3, -2), (3, 10))
        self.told("over", (-7, 7), (-3, -2), (-4, 3))
        self.told("over", EVERY, (-1, -1), EVERY)
        self.told("over", (5, 5), (7, 9), (0, 0))
        self.told("over", (-5, -5), (7, 9), (-1, -1))

    def test_over_with_a_divisor_about_0(self):
        self.told("over", (10, 20), (-3, 5), (-20, 20), False)
        self.told("over", (10, 20), (0, 5), (2, 20), False)
        self.told("over", (10, 20), (-5, 0), (-20, -2), False)
        self.told("over", (-20, -10), (0, 5), (-20, -2), False)
        self.told("over", (-20, -10), (-5, 0), (2, 20), False)
        self.told("over", (10, 20), (0, 0), (0, 0), False)
        self.told("over", (10, 20), (1, 1), (10, 20))
        self.told("over", (10, 20), (-1, -1), (-20, -10))
        self.told("over", (3, 9), (-1, 0), (-9, -3), False)
        self.told("over", (3, 9), (0, 1), (3, 9), False)
        self.told("over", (3, 9), (-1, 1), (-9, 9), False)

    def test_rest(self):
        self.told("rest", (10, 20), (2, 7), (0, 6))
        self.told("rest", (0, 4), (2, 7), (0, 4))
        self.told("rest", (0, 6), (2, 7), (0, 6))
        self.told("rest", (0, 5), (2, 7), (0, 5))
        self.told("rest", (-1, 4), (2, 7), (0, 6))
        self.told("rest", (-9, -4), (2, 7), (0, 6))
        self.told("rest", (-20, -10), (-7, -2), (-6, 0))
        self.told("rest", (-4, 0), (-7, -2), (-4, 0))
        self.told("rest", (-4, 1), (-7, -2), (-6, 0))
        self.told("rest", (4, 9), (-7, -2), (-6, 0))
        self.told("rest", (-6, 0), (-7, -2), (-6, 0))
        self.told("rest", (5, 9), (1, 1), (0, 0))
        self.told("rest", (5, 9), (-1, -1), (0, 0))

    def test_rest_with_a_divisor_about_0(self):
        self.told("rest", (10, 20), (-3, 5), (-2, 4), False)
        self.told("rest", (0, 3), (-3, 5), (-2, 3), False)
        self.told("rest", (-1, 0), (-3, 5), (-1, 4), False)
        self.told("rest", (0, 0), (-3, 5), (0, 0), False)
        self.told("rest", (-1, 1), (-3, 5), (-2, 4), False)
        self.told("rest", (10, 20), (0, 5), (0, 4), False)
        self.told("rest", (10, 20), (-5, 0), (-4, 0), False)
        self.told("rest", (10, 20), (0, 0), (0, 0), False)
        self.told("rest", (10, 20), (-1, 1), (0, 0), False)

    def test_falls_within(self):
        nought = ("over", 1, ONE)
        great = ("plus", OTHER, 1)
        for inner in (nought, great):
            for expr in (inner, ("less", inner, 1), ("less", 1, inner), ("same", ("times", 0, inner), 3),
                         ("rest", ("minus", 1, ("times", inner, 0)), 5)):
                program = alone(read((0, 1), (0, TOP)), ("map", 0, (1, expr, 2)), ("keep", 0, expr))
                self.assertEqual(safe_nodes(program), (0,), expr)

    def test_brought_to_words_ahead_of_the_next_op(self):
        program = alone(read((0, TOP)), ("map", 0, (("minus", ("plus", ONE, 5), TOP),)))
        self.assertEqual(ranges_of(program)[1], ((5 - TOP, 0),))
        self.assertEqual(safe_nodes(program), (0,))

    def test_every_worth_of_small_ranges(self):
        ends = (-4, -3, -1, 0, 1, 3, 4)
        spans = [(low, high) for low in ends for high in ends if low <= high]
        for op, one, other in product(("plus", "minus", "times", "over", "rest"), spans, spans):
            (low, high), safe = of_op(op, one, other)
            made = []
            falls = False
            for record in product(range(one[0], one[1] + 1), range(other[0], other[1] + 1)):
                try:
                    made.append(worth((op, ONE, OTHER), record))
                except Falls:
                    falls = True
            self.assertEqual(safe, not falls, (op, one, other))
            if op == "rest":
                self.assertTrue(all(low <= word <= high for word in made), (op, one, other))
            else:
                self.assertEqual((low, high), (min(made, default=0), max(made, default=0)), (op, one, other))


class Nodes(unittest.TestCase):
    def test_those_that_keep_their_inputs(self):
        a, b = read((0, 3), (-5, 5)), read((2, 9), (-7, 1), most=4, name="b")
        program = alone(a, b, ("keep", 0, 1), ("sort", 1, ((0, "up"),)), ("first", 0, 3), ("look", 0, 1, 0, 0),
                        ("both", 0, 1), ("beside", 1, 0), ("both", 1, 1))
        self.assertEqual(ranges_of(program), (
            a[2], b[2], a[2], b[2], a[2], a[2] + b[2], ((0, 9), (-7, 5)), b[2] + a[2], b[2]))
        self.assertEqual(safe_nodes(program), (0, 1, 2, 3, 4, 5, 6, 8))

    def test_map_by_the_ranges_ahead(self):
        program = alone(read((0, 3)), ("map", 0, (("plus", ONE, 1),)), ("map", 1, (("over", 8, ONE), ONE)))
        self.assertEqual(ranges_of(program), (((0, 3),), ((1, 4),), ((2, 8), (1, 4))))
        self.assertEqual(safe_nodes(program), (0, 1, 2))

    def carried(self, expr, begin, span=(0, 1)):
        program = alone(read(span), ("carry", 0, expr, begin))
        told = ranges_of(program)
        self.assertEqual(told[1][:-1], told[0])
        return told[1][-1], safe_nodes(program) == (0, 1)

    def test_a_carry_that_closes_at_once(self):
        self.assertEqual(self.carried(("was",), 5), ((5, 5), True))
        self.assertEqual(self.carried(5, 5), ((5, 5), True))
        self.assertEqual(self.carried(("times", ("was",), ONE), 0), ((0, 0), True))

    def test_a_carry_that_closes_behind_a_joining(self):
        self.assertEqual(self.carried(ONE, 5), ((0, 5), True))
        self.assertEqual(self.carried(ONE, -5), ((-5, 1), True))
        self.assertEqual(self.carried(("times", ("was",), ONE), 7), ((0, 7), True))
        self.assertEqual(self.carried(("rest", ("plus", ("was",), ONE), 3), 0), ((0, 2), True))

    def climbing(self, top):
        """What was and 1, but no more than a top: (was + 1) less (top < was + 1)."""
        return ("minus", ("plus", ("was",), 1), ("less", top, ("plus", ("was",), 1)))

    def test_a_carry_that_closes_at_its_fourth_joining(self):
        # By was from 0 to h, the rest of was + 1 by n is from 0 to min(n - 1, h + 1).
        for n in range(1, 6):
            told = self.carried(("rest", ("plus", ("was",), 1), n), 0)
            self.assertEqual(told, ((0, n - 1), True), n)
        self.assertEqual(self.carried(("rest", ("plus", ("was",), 1), 6), 0), (EVERY, False))
        self.assertEqual(self.carried(("rest", ("plus", ("was",), 1), 7), 0), (EVERY, False))

    def test_a_carry_that_does_not_close(self):
        self.assertEqual(self.carried(("plus", ("was",), ONE), 0), (EVERY, False))
        self.assertEqual(self.carried(("plus", ("was",), ONE), 0, (0, 0)), ((0, 0), True))
        self.assertEqual(self.carried(("minus", ("was",), 1), 0), (EVERY, False))
        self.assertEqual(self.carried(self.climbing(90), 0), (EVERY, False))

    def test_a_carry_of_every_word_may_be_safe(self):
        told = self.carried(("plus", ("over", ("was",), 2), 10 ** 8), 0)
        self.assertEqual(told, (EVERY, True))

    def test_a_carry_brought_to_words_closes(self):
        self.assertEqual(self.carried(("times", ("was",), 10 ** 6), 1), ((1, TOP), False))
        self.assertEqual(self.carried(("times", ("was",), -(10 ** 6)), 1), (EVERY, False))

    def test_a_carry_that_falls_by_what_it_came_to(self):
        self.assertEqual(self.carried(("over", 4, ("was",)), 4), ((1, 4), True))
        self.assertEqual(self.carried(("over", 4, ("was",)), 5), ((0, 5), False))

    def test_gather(self):
        folds = (("sum", 1), ("least", 1), ("most", 0), ("last", 1))
        program = alone(read((0, 3), (-5, 7), most=10), ("gather", 0, 1, folds), ("gather", 0, 2, (("count",),)),
                        ("gather", 0, 0, (("sum", 0), ("count",))))
        self.assertEqual(ranges_of(program)[1:], (
            ((0, 3), (-50, 70), (-5, 7), (0, 3), (-5, 7)), ((0, 3), (-5, 7), (1, 10)), ((0, 30), (1, 10))))
        self.assertEqual(safe_nodes(program), (0, 1, 2, 3))

    def test_sums_of_one_sign(self):
        program = alone(read((2, 5), (-5, -2), (0, 0), most=10), ("gather", 0, 0, (("sum", 0), ("sum", 1), ("sum", 2))))
        self.assertEqual(ranges_of(program)[1], ((2, 50), (-50, -2), (0, 0)))

    def test_most_0_and_1(self):
        for most in (0, 1):
            program = alone(read((2, 5), most=most), ("gather", 0, 0, (("sum", 0), ("count",))))
            self.assertEqual(ranges_of(program)[1], ((2, 5), (1, 1)))
            self.assertEqual(safe_nodes(program), (0, 1))

    def test_the_most_is_that_of_the_input(self):
        program = alone(read((2, 5), most=10), ("first", 0, 4), ("both", 0, 1),
                        *[("gather", k, 0, (("sum", 0), ("count",))) for k in range(3)])
        self.assertEqual(ranges_of(program)[3:], (((2, 50), (1, 10)), ((2, 20), (1, 4)), ((2, 70), (1, 14))))

    def test_sums_that_are_no_words(self):
        for span, told, safe in (((0, 10 ** 8), (0, TOP), True), ((0, 10 ** 8 + 1), (0, TOP), False),
                                 ((-(10 ** 8), 0), (LOW, 0), True), ((-(10 ** 8) - 1, 0), (LOW, 0), False),
                                 ((TOP, TOP), (TOP, TOP), False), ((LOW, LOW), (LOW, LOW), False)):
            program = alone(read(span), ("gather", 0, 0, (("count",), ("sum", 0))))
            self.assertEqual(ranges_of(program)[1][1], told)
            self.assertEqual(safe_nodes(program), (0, 1) if safe else (0,))

    def test_others_than_sums_are_safe(self):
        program = alone(read(EVERY), ("gather", 0, 1, (("least", 0), ("most", 0), ("last", 0), ("count",))))
        self.assertEqual(safe_nodes(program), (0, 1))

    def test_beside_is_never_safe(self):
        program = alone(read((0, 0)), ("beside", 0, 0), ("both", 0, 0))
        self.assertEqual(safe_nodes(program), (0, 2))

    def test_refused_and_by_name(self):
        for thing in ANYTHING:
            for ask in (ranges_of, safe_nodes, needed):
                with self.assertRaises(NoProgram):
                    ask(thing)
            with self.assertRaises(NoProgram):
                shows_ranges(thing, thing)
        program = alone(read((0, 3)))
        self.assertEqual(ranges_of(program=program), (((0, 3),),))
        self.assertEqual(safe_nodes(program=program), (0,))
        self.assertEqual(needed(program=program), (0,))
        self.assertEqual(shows_ranges(thing=(((0, 3),),), program=program), (0,))


class Papers(unittest.TestCase):
    PROGRAM = alone(
        read((0, 3), (-5, 7)),
        ("map", 0, (("plus", ONE, OTHER), ("over", 60, ("minus", OTHER, 9)))),
        ("carry", 0, ("rest", ("plus", ("was",), ONE), 3), 2),
        ("gather", 0, 1, (("sum", 1), ("count",))),
        ("both", 0, 1),
        ("look", 0, 1, 0, 0),
    )

    def paper(self, **changed):
        told = [list(part) for part in ranges_of(self.PROGRAM)]
        for at, span in changed.items():
            node, column = (int(sign) for sign in at[1:].split("_"))
            told[node][column] = span
        return tuple(tuple(part) for part in told)

    def told(self, thing):
        return shows_ranges(self.PROGRAM, thing)

    def test_the_told_paper(self):
        self.assertEqual(self.paper(), (
            ((0, 3), (-5, 7)), ((-5, 10), (-30, -5)), ((0, 3), (-5, 7), (0, 2)), ((0, 3), (-50, 70), (1, 10)),
            ((-5, 10), (-30, 7)), ((0, 3), (-5, 7), (-5, 10), (-30, -5))))
        self.assertEqual(self.told(self.paper()), (0, 1, 2, 3, 4, 5))

    def test_the_told_paper_of_many_programs(self):
        for program in many_programs(600, 7):
            self.assertEqual(shows_ranges(program, ranges_of(program)), safe_nodes(program))

    def test_each_end_may_be_wider_where_nothing_reads_it(self):
        paper = ranges_of(self.PROGRAM)
        for node in (2, 3, 4, 5):
            for column, (low, high) in enumerate(paper[node]):
                name = f"_{node}_{column}"
                if (node, column) != (2, 2):
                    self.assertEqual(self.told(self.paper(**{name: (low - 1, high)})), (0, 1, 2, 3, 4, 5), name)
                    self.assertEqual(self.told(self.paper(**{name: (low, high + 1)})), (0, 1, 2, 3, 4, 5), name)

    def test_no_end_may_be_narrower(self):
        for node, part in enumerate(ranges_of(self.PROGRAM)):
            for column, (low, high) in enumerate(part):
                name = f"_{node}_{column}"
                self.assertIsNone(self.told(self.paper(**{name: (low + 1, high)})), name)
                self.assertIsNone(self.told(self.paper(**{name: (low, high - 1)})), name)

    def test_a_wider_one_that_is_not_closed_behind(self):
        self.assertIsNone(self.told(self.paper(_0_0=(-1, 3))))
        self.assertIsNone(self.told(self.paper(_0_1=(-5, 8))))
        self.assertIsNone(self.told(self.paper(_1_0=(-6, 10))))

    def test_a_wider_one_that_is_closed(self):
        wider = (
            ((-1, 3), (-6, 8)), ((-7, 11), (-60, -4)), ((-1, 3), (-6, 8), (0, 2)), ((-1, 3), (-60, 80), (1, 10)),
            ((-7, 11), (-60, 8)), ((-1, 3), (-6, 8), (-7, 11), (-60, -4)))
        self.assertEqual(self.told(wider), (0, 1, 2, 3, 4, 5))
        for node, column, span in ((1, 0, (-6, 11)), (1, 0, (-7, 10)), (1, 1, (-59, -4)), (1, 1, (-60, -5)),
                                   (2, 0, (0, 3)), (2, 1, (-6, 7)), (3, 1, (-59, 80)), (3, 1, (-60, 79)),
                                   (4, 0, (-6, 11)), (4, 1, (-59, 8)), (5, 2, (-7, 10)), (5, 3, (-59, -4))):
            part = wider[node][:column] + (span,) + wider[node][column + 1:]
            self.assertIsNone(self.told(wider[:node] + (part,) + wider[node + 1:]), (node, column, span))

    def test_safe_by_the_paper(self):
        program = alone(read((1, 3)), ("map", 0, (("over", 6, ONE),)), ("keep", 0, ("over", 6, ONE)),
                        ("carry", 0, ("times", ("was",), 0), 0), ("gather", 0, 0, (("sum", 0),)))
        self.assertEqual(safe_nodes(program), (0, 1, 2, 3, 4))
        self.assertEqual(shows_ranges(program, (
            ((0, 3),), ((2, 6),), ((0, 3),), ((0, 3), (0, 0)), ((0, 30),))), (0, 3, 4))
        self.assertEqual(shows_ranges(program, (
            ((1, TOP),), ((0, 6),), ((1, TOP),), ((1, TOP), (0, 0)), ((1, TOP),))), (0, 1, 2, 3))
        twice = ("plus", ("was",), ("was",))
        carry = alone(read((0, 1)), ("carry", 0, ("times", 0, twice), 0))
        self.assertEqual(shows_ranges(carry, (((0, 1),), ((0, 1), (0, 0)))), (0, 1))
        self.assertEqual(shows_ranges(carry, (((0, 1),), ((0, 1), (0, TOP // 2)))), (0, 1))
        self.assertEqual(shows_ranges(carry, (((0, 1),), ((0, 1), (0, TOP // 2 + 1)))), (0,))

    def test_a_carry_by_its_own_last_range(self):
        program = alone(read((0, 1)), ("carry", 0, ("rest", ("plus", ("was",), ONE), 30), 2))
        self.assertEqual(ranges_of(program)[1][1], EVERY)
        self.assertEqual(safe_nodes(program), (0,))
        self.assertEqual(shows_ranges(program, (((0, 1),), ((0, 1), (0, 29)))), (0, 1))
        self.assertEqual(shows_ranges(program, (((0, 1),), ((0, 1), (-7, 40)))), (0, 1))
        for last in ((0, 28), (1, 29), (2, 2), (0, 2), (3, 29), (5, 5)):
            self.assertIsNone(shows_ranges(program, (((0, 1),), ((0, 1), last))), last)
        self.assertIsNone(shows_ranges(program, (((0, 1),), ((0, 0), (0, 29)))))
        self.assertEqual(shows_ranges(program, (((0, 1),), ((0, 1), EVERY))), (0,))

    def test_a_carry_has_begin(self):
        program = alone(read((0, 1)), ("carry", 0, ONE, 5))
        self.assertEqual(shows_ranges(program, (((0, 1),), ((0, 1), (0, 5)))), (0, 1))
        self.assertIsNone(shows_ranges(program, (((0, 1),), ((0, 1), (0, 4)))))
        self.assertIsNone(shows_ranges(program, (((0, 1),), ((0, 1), (0, 1)))))

    def test_of_anything(self):
        for thing in ANYTHING:
            self.assertIsNone(self.told(thing), thing)
            for node in range(6):
                paper = self.paper()
                self.assertIsNone(self.told(paper[:node] + (thing,) + paper[node + 1:]), thing)
                if thing != (1, 2):
                    self.assertIsNone(self.told(self.paper(**{f"_{node}_0": thing})), thing)

    def test_forms(self):
        paper = self.paper()
        self.assertIsNone(self.told(list(paper)))
        self.assertIsNone(self.told(paper[:-1]))
        self.assertIsNone(self.told(paper + paper[:1]))
        self.assertIsNone(self.told(()))
        self.assertIsNone(self.told({k: part for k, part in enumerate(paper)}))
        for node in range(6):
            for part in (list(paper[node]), paper[node][:-1], paper[node] + ((0, 0),), ()):
                self.assertIsNone(self.told(paper[:node] + (part,) + paper[node + 1:]))
        for span in ([1, 10], (1,), (1, 10, 10), (True, 10), (1, None), (10, 1), (1, TOP + 1), (LOW - 1, 10), (1, "10"),
                     (1, (10,)), ()):
            self.assertIsNone(self.told(self.paper(_3_2=span)), span)
        for span in ((1, 10), (LOW, TOP), (1, TOP), (-4, 10)):
            self.assertIsNotNone(self.told(self.paper(_3_2=span)), span)
        self.assertIsNone(shows_ranges(alone(read((0, 1))), (((False, True),),)))

    def test_stays_as_it_was(self):
        paper = [[list(span) for span in part] for part in self.paper()]
        with Unchanged(self, paper, self.PROGRAM):
            self.told(paper)
            ranges_of(self.PROGRAM)


class Sound(unittest.TestCase):
    def test_plain_runs_keep_to_the_ranges(self):
        for program, tables in with_tables(700, 5):
            paper = ranges_of(program)
            safe = safe_nodes(program)
            for node in range(len(program[0])):
                rows = rows_of(program, tables, node)
                if rows is None:
                    self.assertNotIn(node, safe)
                    break
                for record in rows:
                    for word, (low, high) in zip(record, paper[node]):
                        self.assertTrue(low <= word <= high, (program, tables, node))


class Needed(unittest.TestCase):
    def test_outputs_and_what_they_hang_on(self):
        nodes = (read((0, 3)), read((0, 3), name="b"), ("keep", 0, 1), ("first", 1, 3), ("both", 2, 3), ("keep", 3, 0))
        self.assertEqual(needed((nodes, (0,))), (0,))
        self.assertEqual(needed((nodes, (2,))), (0, 2))
        self.assertEqual(needed((nodes, (4,))), (0, 1, 2, 3, 4))
        self.assertEqual(needed((nodes, (5,))), (1, 3, 5))
        self.assertEqual(needed((nodes, (2, 5))), (0, 1, 2, 3, 5))

    def test_nodes_that_are_not_safe(self):
        nodes = (read((0, 3)), read((0, 3), name="b"), ("first", 1, 3), ("keep", 2, ("over", 1, ONE)), ("keep", 3, 0))
        self.assertEqual(needed((nodes, (0,))), (0, 1, 2, 3))
        nodes = (read((0, 3)), read((0, 3), name="b"), ("beside", 1, 1), ("first", 2, 0))
        self.assertEqual(needed((nodes, (0,))), (0, 1, 2))
        self.assertEqual(needed((nodes, (3,))), (1, 2, 3))


if __name__ == "__main__":
    unittest.main()
