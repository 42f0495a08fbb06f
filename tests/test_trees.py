import unittest
from itertools import product

from rowhaul.errors import NoLengths, NoNumber
from rowhaul.merges.trees import least, moved, runs_of
from tests.things import ANYTHING, NO_WHOLE, Unchanged

NO_LENGTHS = [thing for thing in ANYTHING if repr(thing) not in ("()", "(1,)", "(1, 2)", "(1, 2, 3)")] + [
    (0,), (401,), (1, 0), (1, -1), (1, True), (None, 1), ("1",), [1, 2], (1,) * 17, (1, (2,)), (10 ** 59,)]
NO_FANS = NO_WHOLE + [1, 0, -1, 10 ** 6 + 1, 10 ** 59]


def all_mergings(lengths, fan):
    """Each merging with how many it moves."""
    if len(lengths) <= fan:
        return [(0, ())]
    told = []
    for many in range(2, min(fan, len(lengths)) + 1):
        for first in range(len(lengths) - many + 1):
            made = sum(lengths[first:first + many])
            for more, merging in all_mergings(lengths[:first] + (made,) + lengths[first + many:], fan):
                told.append((made + more, ((first, many),) + merging))
    return told


class Runs(unittest.TestCase):
    def test_runs(self):
        self.assertEqual(runs_of(0, 5), ())
        self.assertEqual(runs_of(10, 5), (5, 5))
        self.assertEqual(runs_of(11, 5), (5, 5, 1))
        self.assertEqual(runs_of(9, 5), (5, 4))
        self.assertEqual(runs_of(5, 5), (5,))
        self.assertEqual(runs_of(4, 5), (4,))
        self.assertEqual(runs_of(1, 1), (1,))
        self.assertEqual(runs_of(400, 1), (1,) * 400)
        self.assertEqual(runs_of(400, 400), (400,))
        self.assertEqual(runs_of(400, 399), (399, 1))
        for size in (401, 10 ** 6, 10 ** 30, 10 ** 59):
            self.assertEqual(runs_of(400, size), (400,))
            self.assertEqual(runs_of(0, size), ())

    def test_each_run_of_the_size_but_the_last(self):
        for count, size in product(range(0, 401, 7), range(1, 45)):
            told = runs_of(count, size)
            self.assertEqual(sum(told), count)
            self.assertTrue(all(part == size for part in told[:-1]) and all(1 <= part <= size for part in told))

    def test_refused(self):
        for thing in NO_WHOLE + [-1, 401, 10 ** 59]:
            with self.assertRaises(NoNumber):
                runs_of(thing, 5)
            with self.assertRaises(NoNumber):
                runs_of(thing, None)
        for thing in NO_WHOLE + [0, -1, -(10 ** 59)]:
            with self.assertRaises(NoNumber):
                runs_of(5, thing)

    def test_by_name(self):
        self.assertEqual(runs_of(size=4, count=6), (4, 2))


class Moved(unittest.TestCase):
    LENGTHS = (5, 1, 2, 7, 3)

    def test_mergings(self):
        self.assertEqual(moved(self.LENGTHS, 5, ()), 0)
        self.assertEqual(moved(self.LENGTHS, 10 ** 6, ()), 0)
        self.assertEqual(moved((), 2, ()), 0)
        self.assertEqual(moved((3, 4), 2, ()), 0)
        self.assertEqual(moved(self.LENGTHS, 4, ((0, 2),)), 6)
        self.assertEqual(moved(self.LENGTHS, 4, ((3, 2),)), 10)
        self.assertEqual(moved(self.LENGTHS, 4, ((1, 4),)), 13)
        self.assertEqual(moved(self.LENGTHS, 3, ((1, 2), (0, 2))), 11)
        self.assertEqual(moved(self.LENGTHS, 3, ((0, 3),)), 8)
        self.assertEqual(moved(self.LENGTHS, 2, ((1, 2), (1, 2), (0, 2))), 3 + 10 + 15)
        self.assertEqual(moved(self.LENGTHS, 3, ((0, 2), (0, 2))), 6 + 8)

    def test_no_mergings(self):
        for thing in ((), ((0, 2), (0, 2)), ((4, 2),), ((5, 2),), ((-1, 2),), ((0, 5),), ((2, 4),), ((0, 1),), ((0, 0),),
                      ((0, -1),), ((10 ** 59, 2),), ((0, 10 ** 59),)):
            self.assertIsNone(moved(self.LENGTHS, 4, thing), thing)
        self.assertIsNone(moved(self.LENGTHS, 3, ((0, 2),)))
        self.assertIsNone(moved((1, 1, 1), 2, ((-1, 2), (0, 2), (0, 2), (0, 2))))
        self.assertIsNone(moved(self.LENGTHS, 3, ((0, 4),)))
        self.assertIsNone(moved(self.LENGTHS, 3, ((0, 3), (0, 2))))
        self.assertIsNone(moved(self.LENGTHS, 3, ((0, 2), (2, 3))))
        self.assertIsNone(moved((3, 4), 2, ((0, 2),)))
        self.assertIsNone(moved((), 2, ((0, 2),)))

    def test_kinds(self):
        for thing in ([(0, 2)], ([0, 2],), ((0, 2, 0),), ((0,),), (0, 2), ((False, 2),), ((0, True),), ((0, None),),
                      (("0", 2),), {0: 2}, ((0, 2), None), None, True, "02", ((0, (2,)),)):
            self.assertIsNone(moved(self.LENGTHS, 4, thing), thing)
        self.assertIsNone(moved((1, 1, 1), 2, ((True, 2),)))

    def test_of_anything(self):
        for thing in ANYTHING:
            self.assertIsNone(moved(self.LENGTHS, 4, thing))
            self.assertIsNone(moved(self.LENGTHS, 4, (thing,)) if thing != (1, 2) else None)
            self.assertEqual(moved(self.LENGTHS, 5, thing), 0 if thing == () else None)

    def test_refused(self):
        for thing in NO_LENGTHS:
            for fan in (2, None):
                with self.assertRaises(NoLengths):
                    moved(thing, fan, ())
        for fan in NO_FANS:
            with self.assertRaises(NoNumber):
                moved((1, 2), fan, ())

    def test_by_name_and_as_it_was(self):
        self.assertEqual(moved(thing=((0, 2),), fan=2, lengths=(1, 2, 3)), 3)
        thing = [[0, 2]]
        with Unchanged(self, thing, self.LENGTHS):
            moved(self.LENGTHS, 4, thing)


class Least(unittest.TestCase):
    def test_nothing_to_merge(self):
        for lengths in ((), (5,), (5, 1), (400, 400, 400)):
            self.assertEqual(least(lengths, 3), (0, ()))
            self.assertEqual(least(lengths, 10 ** 6), (0, ()))

    def test_some(self):
        self.assertEqual(least((5, 1, 2), 2), (3, ((1, 2),)))
        self.assertEqual(least((1, 1, 9, 1, 1), 3)[0], 4)
        self.assertIn(least((2, 2, 2, 9), 2), ((6 + 4, ((0, 2), (0, 2))), (6 + 4, ((1, 2), (0, 2)))))
        self.assertEqual(least((2, 2, 2, 9), 3)[0], 4)

    def test_by_trying_all(self):
        for many in range(7):
            for at, lengths in enumerate(product((1, 3, 8), repeat=many)):
                if many < 6 or at in range(0, 729, 9):
                    for fan in (2, 3, 4):
                        self.same_as_trying_all(lengths, fan)

    def same_as_trying_all(self, lengths, fan):
        told = least(lengths, fan)
        every = all_mergings(lengths, fan)
        self.assertEqual(told[0], min(one for one, _ in every), (lengths, fan))
        self.assertIn(told, every)
        self.assertEqual(moved(lengths, fan, told[1]), told[0])

    def test_of_up_to_sixteen(self):
        for many in range(17):
            for fan in (2, 3, 4, 5, 8, 15, 16, 17):
                for lengths in ((400,) * many, tuple(1 + 37 * k * k % 101 for k in range(many)),
                                tuple(range(1, many + 1)), (7,) * (many - 1) + (1,) * (many > 0)):
                    told, merging = least(lengths, fan)
                    self.assertEqual(moved(lengths, fan, merging), told, (lengths, fan))
                    self.assertEqual(told == 0, many <= fan)

    def test_sixteen_alike(self):
        self.assertEqual(least((1,) * 16, 2)[0], 48)
        self.assertEqual(least((1,) * 16, 4)[0], 16)
        self.assertEqual(least((1,) * 16, 15)[0], 2)
        self.assertEqual(least((1,) * 16, 8)[0], 8 + 2)
        self.assertEqual(least((1,) * 16, 9)[0], 8)

    def test_refused(self):
        for thing in NO_LENGTHS:
            for fan in (2, None):
                with self.assertRaises(NoLengths):
                    least(thing, fan)
        for fan in NO_FANS:
            with self.assertRaises(NoNumber):
                least((1, 2), fan)
        self.assertEqual(least((1,) * 16, 10 ** 6), (0, ()))

    def test_by_name(self):
        self.assertEqual(least(fan=2, lengths=(5, 1, 2)), (3, ((1, 2),)))


if __name__ == "__main__":
    unittest.main()
