import unittest

from rowhaul.errors import Falls, NoNumber, RowsError
from rowhaul.words.exprs import is_expr, is_record, is_word, worth
from tests.things import ANYTHING, LOW, NO_WHOLE, TOP, Unchanged

OPS = ("plus", "minus", "times", "over", "rest", "less", "same")


def ops_within(many, left=True):
    expr = ("at", 0)
    for _ in range(many):
        expr = ("plus", expr, 1) if left else ("plus", 1, expr)
    return expr


class Words(unittest.TestCase):
    def test_words(self):
        for thing in (0, 1, -1, TOP, LOW, TOP - 1, LOW + 1):
            self.assertIs(is_word(thing), True)

    def test_no_words(self):
        for thing in (TOP + 1, LOW - 1, 10 ** 29, -(10 ** 29), 10 ** 59, -(10 ** 59), True, False, None, "", "1",
                      (1,), [1], {}, {1: 1}):
            self.assertIs(is_word(thing), False, thing)

    def test_of_anything(self):
        for thing in ANYTHING:
            told = isinstance(thing, int) and not isinstance(thing, bool) and abs(thing) <= TOP
            self.assertIs(is_word(thing), told)

    def test_by_name(self):
        self.assertIs(is_word(thing=3), True)
        self.assertIs(is_record(thing=(3,)), True)


class Records(unittest.TestCase):
    def test_records(self):
        for thing in ((0,), (TOP, LOW), (1, 2, 3, 4, 5, 6, 7, 8), (1, 2, 3, 4, 5, 6, 7, 8, 9)):
            self.assertIs(is_record(thing), True)

    def test_no_records(self):
        for thing in ((), (0,) * 10, [0], [1, 2], (True,), (1, 2, False), (1, None), (1, "2"), (1, TOP + 1),
                      (LOW - 1, 1), ((1,),), {0: 1}, "12", 1, None, True):
            self.assertIs(is_record(thing), False, thing)

    def test_of_anything(self):
        for thing in ANYTHING:
            told = isinstance(thing, tuple) and 1 <= len(thing) <= 9 and all(is_word(part) for part in thing)
            self.assertIs(is_record(thing), told)


class Exprs(unittest.TestCase):
    def test_words(self):
        for thing in (0, TOP, LOW):
            self.assertIs(is_expr(thing, 0), True)
            self.assertIs(is_expr(thing, 9), True)
        for thing in (TOP + 1, LOW - 1, True, False, None, "1", 10 ** 59):
            self.assertIs(is_expr(thing, 3), False)

    def test_columns(self):
        for width in range(10):
            for k in range(-2, 12):
                self.assertIs(is_expr(("at", k), width), 0 <= k < width, (k, width))
        for thing in (("at", True), ("at", False), ("at", None), ("at", "0"), ("at", (0,)), ("at",), ("at", 0, 0),
                      ["at", 0], ("col", 0), (0, "at"), ("at", 10 ** 59), ("was", 0), ("at", ("at", 0))):
            self.assertIs(is_expr(thing, 2), False, thing)

    def test_ops(self):
        for op in OPS:
            self.assertIs(is_expr((op, ("at", 0), 2), 1), True)
            self.assertIs(is_expr((op, 2, ("at", 1)), 2), True)
            for thing in ((op,), (op, 1), (op, 1, 2, 3), [op, 1, 2], (op, 1, ("at", 1)), (op, ("at", 1), 1),
                          (op, True, 1), (op, 1, False), (op, 1, None), (op, [1], 1), (op, TOP + 1, 1)):
                self.assertIs(is_expr(thing, 1), False, thing)
        for word in ("add", "more", "", "Plus", "at", "was", None, 0, True, (), []):
            self.assertIs(is_expr((word, 1, 2), 1), False, word)

    def test_ops_within_one_another(self):
        for left in (True, False):
            for many in range(8):
                self.assertIs(is_expr(ops_within(many, left), 1), many <= 4, many)
        both = ("times", ops_within(3), ops_within(3, False))
        self.assertIs(is_expr(both, 1), True)
        self.assertIs(is_expr(("less", ops_within(2), both), 1), False)
        self.assertIs(is_expr(("less", both, ops_within(2)), 1), False)

    def test_was(self):
        was = ("was",)
        for thing in (was, ("plus", was, 1), ("plus", 1, ("plus", 1, ("times", was, ("at", 0))))):
            self.assertIs(is_expr(thing, 1), False)
            self.assertIs(is_expr(thing, 1, carried=False), False)
            self.assertIs(is_expr(thing, 1, carried=True), True)
        for thing in (["was"], ("was", 0), ("was", "was"), "was", ("is",), (0,), (True,), (None,), (("was",),)):
            self.assertIs(is_expr(thing, 1, carried=True), False)

    def test_of_anything(self):
        for thing in ANYTHING:
            for carried in (True, False):
                told = isinstance(thing, int) and not isinstance(thing, bool) and abs(thing) <= TOP
                self.assertIs(is_expr(thing, 9, carried=carried), told, thing)

    def test_widths_that_are_none(self):
        for width in NO_WHOLE + [-1, 10, 10 ** 59, -(10 ** 59)]:
            for thing in (0, None, ("at", 0), [1], "x"):
                with self.assertRaises(NoNumber):
                    is_expr(thing, width)
                with self.assertRaises(NoNumber):
                    is_expr(thing, width, carried=True)

    def test_by_name(self):
        self.assertIs(is_expr(width=2, thing=("at", 1)), True)
        self.assertIs(is_expr(carried=True, width=0, thing=("was",)), True)
        with self.assertRaises(TypeError):
            is_expr(("was",), 0, True)

    def test_stays_as_it_was(self):
        for thing in (["plus", [1], {"a": 1}], ("plus", [1], {"a": 1})):
            with Unchanged(self, thing):
                is_expr(thing, 1, carried=True)


class Worths(unittest.TestCase):
    def falls(self, word, expr, record, **more):
        with self.assertRaises(Falls) as caught:
            worth(expr, record, **more)
        self.assertEqual(caught.exception.word, word)
        self.assertIsInstance(caught.exception, ArithmeticError)
        self.assertNotIsInstance(caught.exception, RowsError)

    def test_words_and_columns(self):
        self.assertEqual(worth(7, (1,)), 7)
        self.assertEqual(worth(LOW, (1,)), LOW)
        self.assertEqual([worth(("at", k), (4, -5, 6)) for k in range(3)], [4, -5, 6])

    def test_ops(self):
        record = (7, -3)
        one, other = ("at", 0), ("at", 1)
        self.assertEqual(worth(("plus", one, other), record), 4)
        self.assertEqual(worth(("minus", one, other), record), 10)
        self.assertEqual(worth(("times", one, other), record), -21)
        self.assertEqual(worth(("over", one, other), record), -3)
        self.assertEqual(worth(("rest", one, other), record), -2)

    def test_over_and_rest_of_either_sign(self):
        told = {(7, 3): (2, 1), (-7, 3): (-3, 2), (7, -3): (-3, -2), (-7, -3): (2, -1), (6, 3): (2, 0),
                (-6, 3): (-2, 0), (6, -3): (-2, 0), (0, 5): (0, 0), (0, -5): (0, 0), (1, TOP): (0, 1),
                (-1, TOP): (-1, TOP - 1), (1, LOW): (-1, LOW + 1), (LOW, -1): (TOP, 0), (LOW, 1): (LOW, 0),
                (TOP, -1): (LOW, 0), (2, 7): (0, 2), (-2, 7): (-1, 5), (2, -7): (-1, -5), (-2, -7): (0, -2)}
        for record, (over, rest) in told.items():
            self.assertEqual(worth(("over", ("at", 0), ("at", 1)), record), over, record)
            self.assertEqual(worth(("rest", ("at", 0), ("at", 1)), record), rest, record)

    def test_less_and_same(self):
        for one, other in ((1, 2), (2, 1), (2, 2), (-1, 0), (LOW, TOP), (TOP, LOW), (0, 0)):
            less = worth(("less", one, other), (0,))
            same = worth(("same", one, other), (0,))
            self.assertEqual(repr((less, same)), repr((int(one < other), int(one == other))))

    def test_nought(self):
        for op in ("over", "rest"):
            self.falls("nought", (op, 5, 0), (1,))
            self.falls("nought", (op, 0, ("at", 0)), (0,))
        self.assertEqual(worth(("times", 5, 0), (1,)), 0)

    def test_great(self):
        self.assertEqual(worth(("plus", TOP - 1, 1), (0,)), TOP)
        self.falls("great", ("plus", TOP, 1), (0,))
        self.assertEqual(worth(("plus", LOW + 1, -1), (0,)), LOW)
        self.falls("great", ("plus", LOW, -1), (0,))
        self.assertEqual(worth(("minus", LOW + 1, 1), (0,)), LOW)
        self.falls("great", ("minus", LOW, 1), (0,))
        self.falls("great", ("minus", TOP, -1), (0,))
        self.assertEqual(worth(("times", 10 ** 5, 10 ** 4), (0,)), TOP)
        self.assertEqual(worth(("times", 10 ** 5, -(10 ** 4)), (0,)), LOW)
        self.falls("great", ("times", 10 ** 5, 10 ** 4 + 1), (0,))
        self.falls("great", ("times", LOW, LOW), (0,))
        self.falls("great", ("minus", ("plus", TOP, 1), 1), (0,))

    def test_which_op_falls_first(self):
        nought, great = ("over", 1, 0), ("plus", TOP, 1)
        for op in OPS:
            self.falls("nought", (op, nought, great), (0,))
            self.falls("great", (op, great, nought), (0,))
            self.falls("nought", (op, 1, nought), (0,))
            self.falls("great", (op, 1, great), (0,))
        self.falls("great", ("over", great, 0), (0,))
        self.falls("great", ("over", ("plus", 1, great), 0), (0,))
        self.falls("nought", ("plus", TOP, ("rest", 1, 0)), (0,))

    def test_was(self):
        self.assertEqual(worth(("was",), (3,), was=8), 8)
        self.assertEqual(worth(("was",), (3,)), 0)
        self.assertEqual(worth(("plus", ("was",), ("at", 0)), (3,), was=-5), -2)
        self.assertEqual(worth(("times", ("plus", 2, ("was",)), ("was",)), (3,), was=4), 24)
        self.assertEqual(worth(("plus", ("was",), ("at", 0)), (3,)), 3)
        self.falls("nought", ("over", 1, ("was",)), (3,))
        self.falls("great", ("plus", ("was",), ("at", 0)), (1,), was=TOP)

    def test_by_name(self):
        self.assertEqual(worth(was=2, record=(3,), expr=("minus", ("at", 0), ("was",))), 1)
        with self.assertRaises(TypeError):
            worth(("was",), (1,), 2)


if __name__ == "__main__":
    unittest.main()
