import unittest
from itertools import product

from rowhaul.errors import NoLengths, NoNumber
from rowhaul.merges.tables import shows, table_of
from rowhaul.merges.trees import least
from tests.test_trees import NO_FANS, NO_LENGTHS
from tests.things import ANYTHING, NO_WHOLE, Unchanged


class Tables(unittest.TestCase):
    LENGTHS = (5, 1, 2, 7)

    def told(self, number, thing, fan=2):
        return shows(self.LENGTHS, fan, number, thing)

    def changed(self, key, numbers, fan=2):
        return {**table_of(self.LENGTHS, fan), key: numbers}

    def test_the_told_table(self):
        self.assertEqual(table_of(self.LENGTHS, 2), {
            1: (0,), 1002: (0,), 2003: (0,), 3004: (0,),
            2: (6, 0), 1003: (3, 0), 2004: (9, 0),
            3: (11, 3), 1004: (13, 3),
            4: (26, 11),
        })
        self.assertEqual(table_of(self.LENGTHS, 3), {
            1: (0,), 1002: (0,), 2003: (0,), 3004: (0,),
            2: (6, 0), 1003: (3, 0), 2004: (9, 0),
            3: (8, 3, 0), 1004: (10, 3, 0),
            4: (18, 8, 3),
        })
        self.assertEqual(table_of((), 2), {})
        self.assertEqual(table_of((9,), 2), {1: (0,)})

    def test_shows_the_least_and_no_more(self):
        for many in range(7):
            for at, lengths in enumerate(product((1, 3, 8), repeat=many)):
                if many < 5 or at in range(0, 729, 27):
                    self.shows_just(lengths, (2, 3, 4, 10 ** 6))
        for many in (9, 12, 16):
            for lengths in ((400,) * many, tuple(1 + 37 * k * k % 101 for k in range(many))):
                self.shows_just(lengths, (2, 3, 5, 8, 15, 16))

    def shows_just(self, lengths, fans):
        for fan in fans:
            table = table_of(lengths, fan)
            number, _ = least(lengths, fan)
            for other, told in ((number, True), (number + 1, False), (number - 1, True), (0, True), (-5, True),
                                (10 ** 59, False), (-(10 ** 59), True)):
                self.assertIs(shows(lengths, fan, other, table), told, (lengths, fan, other))

    def test_numbers_one_more(self):
        for fan in (2, 3):
            for key, numbers in table_of(self.LENGTHS, fan).items():
                for t in range(len(numbers)):
                    more = numbers[:t] + (numbers[t] + 1,) + numbers[t + 1:]
                    self.assertIs(self.told(0, self.changed(key, more, fan), fan), False, (fan, key, t))

    def test_numbers_one_less(self):
        number, _ = least(self.LENGTHS, 2)
        for key in (1, 1002, 2003, 3004):
            self.assertIs(self.told(0, self.changed(key, (-1,))), False)
        for key, numbers, told in ((4, (25, 11), True), (4, (26, 10), False), (2, (5, 0), True), (1003, (2, 0), False),
                                   (3, (11, 2), False), (3, (10, 3), False), (2, (6, -1), False)):
            self.assertIs(self.told(number, self.changed(key, numbers)), told, (key, numbers))
        self.assertIs(self.told(10, self.changed(4, (26, 10))), False)
        self.assertIs(self.told(10, self.changed(4, (25, 10))), True)
        self.assertIs(self.told(10, {**self.changed(4, (25, 10)), 3: (10, 3)}), True)

    def test_numbers_below_0(self):
        for numbers, told in (((6, 0), True), ((5, 0), True), ((5, -1), False), ((-1, 0), False)):
            table = {1: (0,), 1002: (0,), 2: numbers}
            self.assertIs(shows((5, 1), 2, -1, table), told, numbers)

    def test_a_lesser_table_shows_lesser_numbers(self):
        noughts = {key: (0,) * len(numbers) for key, numbers in table_of(self.LENGTHS, 2).items()}
        self.assertIs(self.told(0, noughts), True)
        self.assertIs(self.told(-1, noughts), True)
        self.assertIs(self.told(1, noughts), False)

    def test_a_number_of_one_is_bound_by_each_other(self):
        table = table_of(self.LENGTHS, 3)
        self.assertIs(self.told(3, {**table, 4: (18, 8, 3)}, 3), True)
        self.assertIs(self.told(3, {**table, 4: (19, 8, 3)}, 3), False)
        self.assertIs(self.told(0, {**table, 4: (18, 8, 2)}, 3), False)
        self.assertIs(self.told(2, {**table, 4: (17, 8, 2)}, 3), True)

    def test_each_number_of_the_whole_is_looked_at(self):
        self.assertIs(self.told(11, self.changed(4, (10, 11))), False)
        self.assertIs(self.told(10, self.changed(4, (10, 11))), True)
        self.assertIs(shows((5,), 2, 0, {1: (0,)}), True)
        self.assertIs(shows((5,), 2, 1, {1: (0,)}), False)

    def test_keys(self):
        table = table_of(self.LENGTHS, 2)
        for key in table:
            out = dict(table)
            del out[key]
            self.assertIs(self.told(0, out), False, key)
            self.assertIs(self.told(0, {**out, str(key): table[key]}), False, key)
            self.assertIs(self.told(0, {**out, 5: (0, 0)}), False, key)
            self.assertIs(self.told(0, {**out, str(key): table[key], 5: (0,)}), False, key)
        for key in (0, 5, 1001, 4005, "a", "1", -1, 10 ** 30):
            self.assertIs(self.told(0, {**table, key: (0,)}), False, key)
        one = dict(table)
        del one[1]
        self.assertIs(self.told(0, {**one, True: (0,)}), False)

    def test_kinds(self):
        for numbers in ([0], (False,), (None,), ("0",), (), (0, 0), 0, None, ((0,),), {0: 0}):
            self.assertIs(self.told(0, self.changed(2003, numbers)), False, numbers)
        for numbers in ([3, 0], (True, 0), (3, False), (3,), (3, 0, 0), (3, None), ("3", 0), (-1, 0)):
            self.assertIs(self.told(0, self.changed(1003, numbers)), False, numbers)
        self.assertIs(self.told(0, list(table_of(self.LENGTHS, 2).items())), False)

    def test_of_anything(self):
        for thing in ANYTHING:
            self.assertIs(self.told(0, thing), False)
            self.assertIs(self.told(0, self.changed(2004, thing)), False)
            whole = repr(thing) in ("0", "1", "2", "7")
            self.assertIs(self.told(0, self.changed(4, (0, thing))), whole, thing)
            self.assertIs(shows((5,), 2, 0, thing), thing == {1: (0,)})

    def test_of_no_runs(self):
        for number in (0, -1, -(10 ** 30), -(10 ** 59)):
            self.assertIs(shows((), 2, number, {}), True)
        for number in (1, 10 ** 59):
            self.assertIs(shows((), 2, number, {}), False)
        for thing in ANYTHING:
            self.assertIs(shows((), 2, 0, thing), thing == {})

    def test_refused(self):
        for thing in NO_LENGTHS:
            for fan in (2, None):
                with self.assertRaises(NoLengths):
                    table_of(thing, fan)
                with self.assertRaises(NoLengths):
                    shows(thing, fan, None, {})
        for fan in NO_FANS:
            with self.assertRaises(NoNumber):
                table_of((1, 2), fan)
            for number in (0, None):
                with self.assertRaises(NoNumber):
                    shows((1, 2), fan, number, {})
        for number in NO_WHOLE:
            for thing in ({}, None, table_of((1, 2), 2)):
                with self.assertRaises(NoNumber):
                    shows((1, 2), 2, number, thing)

    def test_told_dicts_are_the_askers_own(self):
        table = table_of(self.LENGTHS, 2)
        table.clear()
        self.assertIs(self.told(11, table_of(self.LENGTHS, 2)), True)

    def test_by_name_and_as_it_was(self):
        table = table_of(fan=2, lengths=self.LENGTHS)
        with Unchanged(self, table, self.LENGTHS):
            self.assertIs(shows(thing=table, number=11, fan=2, lengths=self.LENGTHS), True)
        odd = {1: [0], "a": [1, {2: 3}]}
        with Unchanged(self, odd):
            self.told(0, odd)


if __name__ == "__main__":
    unittest.main()
