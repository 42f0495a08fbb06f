import unittest

from rowhaul.errors import Falls, NoNumber
from rowhaul.words.folds import folded, is_fold
from tests.things import ANYTHING, LOW, NO_WHOLE, TOP, Unchanged


class IsFold(unittest.TestCase):
    def test_folds(self):
        for width in range(10):
            self.assertIs(is_fold(("count",), width), True)
            for word in ("sum", "least", "most", "last"):
                for k in range(-2, 11):
                    self.assertIs(is_fold((word, k), width), 0 <= k < width, (word, k, width))

    def test_no_folds(self):
        for thing in (("sum",), ("count", 0), ("sum", 0, 0), ("sum", True), ("sum", False), ("least", None),
                      ("most", "0"), ("last", (0,)), ["sum", 0], ["count"], "count", "sum", ("first", 0), ("count", ()),
                      (), ("Sum", 0), (None,), (0,), (0, "sum"), ([], 0), ({}, 0), None, True, 0, {"sum": 0},
                      ("sum", 10 ** 59)):
            self.assertIs(is_fold(thing, 3), False, thing)

    def test_of_anything(self):
        for thing in ANYTHING:
            self.assertIs(is_fold(thing, 9), False, thing)

    def test_widths_that_are_none(self):
        for width in NO_WHOLE + [-1, 10, 10 ** 59, -(10 ** 59)]:
            for thing in (("count",), ("sum", 0), None, [1]):
                with self.assertRaises(NoNumber):
                    is_fold(thing, width)

    def test_by_name(self):
        self.assertIs(is_fold(width=1, thing=("sum", 0)), True)
        self.assertIs(is_fold(width=0, thing=("sum", 0)), False)


class Folded(unittest.TestCase):
    RECORDS = ((3, 5), (1, -4), (9, 5), (2, 6))

    def test_each_fold(self):
        self.assertEqual(folded((("sum", 0),), self.RECORDS), (15,))
        self.assertEqual(folded((("least", 1),), self.RECORDS), (-4,))
        self.assertEqual(folded((("most", 0),), self.RECORDS), (9,))
        self.assertEqual(folded((("last", 1),), self.RECORDS), (6,))
        self.assertEqual(folded((("count",),), self.RECORDS), (4,))

    def test_several_at_once(self):
        folds = (("count",), ("last", 0), ("most", 1), ("sum", 1))
        self.assertEqual(folded(folds, self.RECORDS), (4, 2, 6, 12))
        self.assertEqual(folded((("sum", 0), ("sum", 0), ("least", 0)), self.RECORDS), (15, 15, 1))
        self.assertEqual(folded((), self.RECORDS), ())

    def test_one_record(self):
        folds = (("sum", 0), ("least", 0), ("most", 0), ("last", 0), ("count",))
        self.assertEqual(folded(folds, ((-7, 1),)), (-7, -7, -7, -7, 1))
        self.assertEqual(folded(folds, ((TOP,),)), (TOP, TOP, TOP, TOP, 1))

    def test_sums_at_the_bounds(self):
        self.assertEqual(folded((("sum", 0),), ((TOP - 1,), (1,))), (TOP,))
        self.assertEqual(folded((("sum", 0),), ((LOW + 1,), (-1,))), (LOW,))
        for records in (((TOP,), (1,)), ((LOW,), (-1,)), ((TOP,), (TOP,))):
            with self.assertRaises(Falls) as caught:
                folded((("sum", 0),), records)
            self.assertEqual(caught.exception.word, "great")

    def test_a_sum_that_falls_though_later_ones_would_bring_it_back(self):
        for folds in ((("sum", 0),), (("count",), ("sum", 0)), (("sum", 0), ("least", 0))):
            with self.assertRaises(Falls) as caught:
                folded(folds, ((TOP,), (1,), (-5,)))
            self.assertEqual(caught.exception.word, "great")
        self.assertEqual(folded((("sum", 0),), ((TOP,), (-5,), (1,))), (TOP - 4,))

    def test_others_do_not_fall(self):
        self.assertEqual(folded((("least", 0), ("most", 0), ("last", 0)), ((TOP,), (TOP,), (TOP,))), (TOP, TOP, TOP))

    def test_by_name_and_as_it_was(self):
        with Unchanged(self, self.RECORDS):
            self.assertEqual(folded(records=self.RECORDS, folds=(("count",),)), (4,))


if __name__ == "__main__":
    unittest.main()
