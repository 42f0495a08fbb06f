import unittest

from rowhaul.errors import Falls, NoNode, NoProgram, NoTables
from rowhaul.programs.plain import counts_of, plain, rows_of
from rowhaul.words.exprs import worth
from tests.programs import with_tables
from tests.things import ANYTHING, LOW, TOP, Unchanged, alone

ANY = (LOW, TOP)


def told_of(rows, *nodes, other=()):
    """What plain tells of nodes behind a read of these rows (0) and a read of others (1)."""
    program, tables = behind(rows, *nodes, other=other)
    return plain(program, tables)


def behind(rows, *nodes, other=()):
    reads = []
    for name, part in (("rows", rows), ("other", other)):
        width = len(part[0]) if part else 2
        reads.append(("read", name, (ANY,) * width, 50))
    return alone(*reads, *nodes), {"rows": tuple(rows), "other": tuple(other)}


ROWS = ((3, 10), (1, 20), (3, 5), (2, 20), (1, 20))


class Nodes(unittest.TestCase):
    def rows(self, told, *expected):
        self.assertEqual(told, ("rows", (tuple(expected),)))

    def fault(self, told, node, number, word):
        self.assertEqual(told, ("fault", (node, number, word)))

    def test_read(self):
        self.assertEqual(plain(alone(("read", "a", (ANY,), 3)), {"a": ((1,), (0,), (1,))}), ("rows", (((1,), (0,), (1,)),)))
        self.assertEqual(plain(alone(("read", "a", (ANY,), 3)), {"a": (), "b": 7}), ("rows", ((),)))

    def test_no_rows(self):
        for node in (("map", 0, (0,)), ("keep", 0, 1), ("carry", 0, 1, 0), ("sort", 0, ((0, "up"),)),
                     ("gather", 0, 1, ()), ("gather", 0, 0, (("count",),)), ("look", 0, 1, 0, 0), ("both", 0, 0),
                     ("beside", 0, 0), ("first", 0, 3)):
            self.rows(told_of((), node, other=((1, 2),)))

    def test_map(self):
        self.rows(told_of(ROWS[:3], ("map", 0, (("at", 1), 7, ("minus", ("at", 0), ("at", 1))))),
                  (10, 7, -7), (20, 7, -19), (5, 7, -2))

    def test_map_falls(self):
        over = ("map", 0, (1, ("over", 6, ("at", 0))))
        self.fault(told_of(((1, 1), (2, 1), (0, 1), (0, 2)), over), 2, 2, "nought")
        self.fault(told_of(((0, 1),), over), 2, 0, "nought")
        two = ("map", 0, (("plus", ("at", 0), 1), ("over", 1, ("at", 1))))
        self.fault(told_of(((1, 1), (TOP, 0)), two), 2, 1, "great")
        self.fault(told_of(((1, 1), (5, 0), (TOP, 1)), two), 2, 1, "nought")

    def test_keep(self):
        self.rows(told_of(ROWS, ("keep", 0, ("less", ("at", 0), 3))), (1, 20), (2, 20), (1, 20))
        self.rows(told_of(ROWS, ("keep", 0, ("minus", ("at", 0), 3))), (1, 20), (2, 20), (1, 20))
        self.rows(told_of(ROWS, ("keep", 0, 0)))
        self.rows(told_of(ROWS, ("keep", 0, -1)), *ROWS)

    def test_keep_falls(self):
        self.fault(told_of(ROWS, ("keep", 0, ("rest", 1, ("minus", ("at", 1), 5)))), 2, 2, "nought")
        self.fault(told_of(((1,), (TOP,)), ("keep", 0, ("times", ("at", 0), 2))), 2, 1, "great")

    def test_carry(self):
        self.rows(told_of(ROWS, ("carry", 0, ("plus", ("was",), ("at", 0)), 100)),
                  (3, 10, 103), (1, 20, 104), (3, 5, 107), (2, 20, 109), (1, 20, 110))
        self.rows(told_of(ROWS[:3], ("carry", 0, ("at", 1), -5)), (3, 10, 10), (1, 20, 20), (3, 5, 5))
        self.rows(told_of(ROWS[:3], ("carry", 0, ("was",), -5)), (3, 10, -5), (1, 20, -5), (3, 5, -5))

    def test_carry_falls(self):
        times = ("carry", 0, ("times", ("was",), ("at", 0)), 10 ** 8)
        self.fault(told_of(((2,), (5,), (1,), (-1,), (2,), (-1,)), times), 2, 4, "great")
        self.fault(told_of(((2,), (0,), (1,)), ("carry", 0, ("over", ("at", 0), ("was",)), 1)), 2, 2, "nought")
        self.fault(told_of(((2,),), ("carry", 0, ("over", ("at", 0), ("was",)), 0)), 2, 0, "nought")

    def test_sort(self):
        self.rows(told_of(ROWS, ("sort", 0, ((0, "up"),))), (1, 20), (1, 20), (2, 20), (3, 10), (3, 5))
        self.rows(told_of(ROWS, ("sort", 0, ((0, "down"),))), (3, 10), (3, 5), (2, 20), (1, 20), (1, 20))
        self.rows(told_of(ROWS, ("sort", 0, ((0, "down"), (1, "up")))), (3, 5), (3, 10), (2, 20), (1, 20), (1, 20))
        self.rows(told_of(ROWS, ("sort", 0, ((1, "down"), (0, "up")))), (1, 20), (1, 20), (2, 20), (3, 10), (3, 5))
        self.rows(told_of(((-1,), (TOP,), (LOW,), (0,)), ("sort", 0, ((0, "up"),))), (LOW,), (-1,), (0,), (TOP,))

    def test_sort_leaves_alike_ones_as_they_stood(self):
        rows = ((1, 0, 5), (0, 1, 4), (1, 0, 3), (0, 1, 9), (1, 1, 1), (0, 1, 2))
        self.rows(told_of(rows, ("sort", 0, ((0, "up"),))), *[rows[k] for k in (1, 3, 5, 0, 2, 4)])
        self.rows(told_of(rows, ("sort", 0, ((0, "down"),))), *[rows[k] for k in (0, 2, 4, 1, 3, 5)])
        self.rows(told_of(rows, ("sort", 0, ((1, "down"), (0, "up")))), *[rows[k] for k in (1, 3, 5, 4, 0, 2)])

    def test_gather(self):
        rows = ((1, 5), (1, -2), (2, 5), (1, 7), (1, 7), (1, 0))
        self.rows(told_of(rows, ("gather", 0, 1, (("sum", 1), ("count",), ("least", 1), ("most", 1)))),
                  (1, 3, 2, -2, 5), (2, 5, 1, 5, 5), (1, 14, 3, 0, 7))
        self.rows(told_of(rows, ("gather", 0, 1, (("last", 1),))), (1, -2), (2, 5), (1, 0))
        self.rows(told_of(rows, ("gather", 0, 1, ())), (1,), (2,), (1,))
        self.rows(told_of(rows, ("gather", 0, 2, ())), (1, 5), (1, -2), (2, 5), (1, 7), (1, 0))
        self.rows(told_of(rows, ("gather", 0, 2, (("count",),))), (1, 5, 1), (1, -2, 1), (2, 5, 1), (1, 7, 2), (1, 0, 1))

    def test_gather_with_many_0(self):
        self.rows(told_of(ROWS, ("gather", 0, 0, (("sum", 0), ("last", 1)))), (10, 20))
        self.rows(told_of(ROWS[:1], ("gather", 0, 0, (("count",),))), (1,))
        self.rows(told_of((), ("gather", 0, 0, (("count",),))))

    def test_gather_falls(self):
        total = ("gather", 0, 1, (("count",), ("sum", 1)))
        self.fault(told_of(((1, TOP), (2, TOP), (2, 1), (2, -5)), total), 2, 2, "great")
        self.fault(told_of(((1, LOW), (1, -1)), total), 2, 1, "great")
        self.rows(told_of(((1, TOP), (2, TOP), (2, -1), (1, 1)), total), (1, 1, TOP), (2, 2, TOP - 1), (1, 1, 1))

    def test_look(self):
        other = ((20, 1), (5, 2), (20, 3), (7, 4))
        self.rows(told_of(ROWS, ("look", 0, 1, 1, 0), other=other),
                  (1, 20, 20, 1), (3, 5, 5, 2), (2, 20, 20, 1), (1, 20, 20, 1))
        self.rows(told_of(ROWS, ("look", 0, 1, 0, 1), other=other),
                  (3, 10, 20, 3), (1, 20, 20, 1), (3, 5, 20, 3), (2, 20, 5, 2), (1, 20, 20, 1))
        self.rows(told_of(ROWS, ("look", 0, 1, 0, 0), other=other))
        self.rows(told_of(ROWS, ("look", 0, 1, 0, 0), other=()))

    def test_both(self):
        other = ((9, 9), (8, 8))
        self.rows(told_of(ROWS, ("both", 0, 1), other=other), *ROWS, *other)
        self.rows(told_of(ROWS, ("both", 1, 0), other=other), *other, *ROWS)

    def test_beside(self):
        other = ((9,), (8,), (7,))
        self.rows(told_of(ROWS[:3], ("beside", 0, 1), other=other), (3, 10, 9), (1, 20, 8), (3, 5, 7))
        self.rows(told_of(ROWS[:3], ("beside", 1, 0), other=other), (9, 3, 10), (8, 1, 20), (7, 3, 5))

    def test_beside_uneven(self):
        self.fault(told_of(ROWS, ("beside", 0, 1), other=((1,), (2,))), 2, 2, "uneven")
        self.fault(told_of(ROWS, ("beside", 1, 0), other=((1,), (2,))), 2, 2, "uneven")
        self.fault(told_of(ROWS, ("beside", 1, 0), other=()), 2, 0, "uneven")
        self.fault(told_of((), ("beside", 0, 1), other=((1,),)), 2, 0, "uneven")

    def test_i_the_same_as_j(self):
        self.rows(told_of(ROWS[:2], ("both", 0, 0)), *ROWS[:2], *ROWS[:2])
        self.rows(told_of(ROWS[:2], ("beside", 0, 0)), (3, 10, 3, 10), (1, 20, 1, 20))
        self.rows(told_of(((1, 2), (2, 1), (3, 1)), ("look", 0, 0, 1, 0)), (1, 2, 2, 1), (2, 1, 1, 2), (3, 1, 1, 2))
        self.rows(told_of(ROWS, ("look", 0, 0, 0, 0)), *[row + (ROWS[0] if row[0] == 3 else row) for row in ROWS])

    def test_first(self):
        for n in range(8):
            self.rows(told_of(ROWS, ("first", 0, n)), *ROWS[:n])
        self.rows(told_of(ROWS, ("first", 0, 400)), *ROWS)

    def test_each_node_has_a_fault_of_its_number(self):
        more = (("keep", 0, 1), ("keep", 2, 1), ("map", 3, (("over", 1, ("at", 0)),)))
        self.fault(told_of(((1,), (0,)), *more), 4, 1, "nought")


class Whole(unittest.TestCase):
    def test_several_outputs(self):
        program, tables = behind(ROWS, ("first", 0, 1), ("first", 0, 2))
        nodes, _ = program
        self.assertEqual(plain((nodes, (2, 3)), tables), ("rows", (ROWS[:1], ROWS[:2])))
        self.assertEqual(plain((nodes, (0, 1, 3)), tables), ("rows", (ROWS, (), ROWS[:2])))

    def test_the_first_fault(self):
        falls = ("map", 0, (("over", 1, ("at", 0)),))
        great = ("map", 0, (("plus", TOP, ("at", 0)),))
        rows = ((-1,), (1,), (0,))
        self.assertEqual(told_of(rows, falls, great), ("fault", (2, 2, "nought")))
        self.assertEqual(told_of(rows, great, falls), ("fault", (2, 1, "great")))
        self.assertEqual(told_of(rows, ("beside", 0, 1), great), ("fault", (2, 0, "uneven")))

    def test_a_fault_of_a_node_that_is_no_output(self):
        program, tables = behind(((0,),), ("keep", 0, ("over", 1, ("at", 0))))
        self.assertEqual(plain((program[0], (0,)), tables), ("fault", (2, 0, "nought")))
        self.assertIsNone(counts_of((program[0], (0,)), tables))

    def test_counts(self):
        program, tables = behind(ROWS, ("keep", 0, ("less", ("at", 0), 3)), ("gather", 2, 1, ()), ("both", 0, 2))
        self.assertEqual(counts_of(program, tables), (5, 0, 3, 3, 8))
        falling, tables = behind(((1,), (0,)), ("map", 0, (("over", 1, ("at", 0)),)), ("first", 0, 1))
        self.assertIsNone(counts_of(falling, tables))
        self.assertIsNone(counts_of(*behind(ROWS, ("beside", 0, 1))))

    def test_rows_ahead_of_at_and_behind_a_fault(self):
        program, tables = behind(((1,), (0,)), ("first", 0, 1), ("map", 0, (("over", 1, ("at", 0)),)), ("first", 0, 1))
        self.assertEqual([rows_of(program, tables, node) for node in range(5)],
                         [((1,), (0,)), (), ((1,),), None, None])

    def test_rows(self):
        program, tables = behind(ROWS, ("first", 0, 1), ("first", 0, 2))
        self.assertEqual([rows_of(program, tables, node) for node in range(4)], [ROWS, (), ROWS[:1], ROWS[:2]])

    def test_refused(self):
        program, tables = behind(ROWS, ("first", 0, 1))
        for thing in ANYTHING:
            for ask in (plain, counts_of):
                with self.assertRaises(NoProgram):
                    ask(thing, thing)
                with self.assertRaises(NoProgram):
                    ask(thing, tables)
                with self.assertRaises(NoTables):
                    ask(program, thing)
            for other in (0, None):
                with self.assertRaises(NoProgram):
                    rows_of(thing, tables, other)
                with self.assertRaises(NoProgram):
                    rows_of(thing, thing, other)
                with self.assertRaises(NoTables):
                    rows_of(program, thing, other)
            if repr(thing) not in ("0", "1", "2"):
                with self.assertRaises(NoNode) as caught:
                    rows_of(program, tables, thing)
                self.assertEqual(repr(caught.exception.node), repr(thing))
        for node in (-1, 3, True, False):
            with self.assertRaises(NoNode):
                rows_of(program, tables, node)

    def test_by_name(self):
        program, tables = behind(ROWS, ("first", 0, 1))
        self.assertEqual(plain(tables=tables, program=program), ("rows", (ROWS[:1],)))
        self.assertEqual(counts_of(tables=tables, program=program), (5, 0, 1))
        self.assertEqual(rows_of(node=2, tables=tables, program=program), ROWS[:1])

    def test_stays_as_it_was(self):
        program, tables = behind(ROWS, ("sort", 0, ((0, "up"),)), ("look", 2, 0, 0, 0))
        tables["more"] = [1, [2]]
        with Unchanged(self, program, tables):
            plain(program, tables)
            counts_of(program, tables)
            rows_of(program, tables, 3)


class Slow(unittest.TestCase):
    """Plain once more, said another way, over many programs."""

    def test_many(self):
        words = set()
        for program, tables in with_tables(1500):
            told = slow_plain(program, tables)
            self.assertEqual(plain(program, tables), told, (program, tables))
            if told[0] == "fault":
                words.add((program[0][told[1][0]][0], told[1][2]))
                self.assertIsNone(counts_of(program, tables))
        self.assertEqual(words, {("map", "nought"), ("map", "great"), ("keep", "nought"), ("keep", "great"),
                                 ("carry", "nought"), ("carry", "great"), ("gather", "great"), ("beside", "uneven")})


def slow_plain(program, tables):
    rows = []
    for k, node in enumerate(program[0]):
        told = slow_rows(node, rows, tables)
        if told[0] == "falls":
            return ("fault", (k, told[1], told[2]))
        rows.append(told[1])
    return ("rows", tuple(rows[k] for k in program[1]))


def slow_rows(node, rows, tables):
    word = node[0]
    if word == "read":
        return ("rows", tables[node[1]])
    one = rows[node[1]]
    if word == "sort":
        told = list(one)
        for column, way in reversed(node[2]):
            told.sort(key=lambda record: record[column], reverse=way == "down")
        return ("rows", tuple(told))
    if word == "first":
        return ("rows", tuple(record for number, record in enumerate(one) if number < node[2]))
    if word in ("look", "both", "beside"):
        other = rows[node[2]]
        if word == "both":
            return ("rows", one + other)
        if word == "look":
            found = [(record, [row for row in other if row[node[4]] == record[node[3]]]) for record in one]
            return ("rows", tuple(record + those[0] for record, those in found if those))
        if len(one) != len(other):
            return ("falls", min(len(one), len(other)), "uneven")
        return ("rows", tuple(one[k] + other[k] for k in range(len(one))))
    told = []
    number = 0
    try:
        for number, record in enumerate(one):
            slow_record(node, record, told)
    except Falls as fall:
        return ("falls", number, fall.word)
    return ("rows", tuple(told))


def slow_record(node, record, told):
    if node[0] == "map":
        told.append(tuple(worth(expr, record) for expr in node[2]))
    if node[0] == "keep" and worth(node[2], record):
        told.append(record)
    if node[0] == "carry":
        told.append(record + (worth(node[2], record, was=told[-1][-1] if told else node[3]),))
    if node[0] == "gather":
        many, folds = node[2], node[3]
        joins = bool(told) and told[-1][:many] == record[:many]
        held = told.pop()[many:] if joins else (None,) * len(folds)
        told.append(record[:many] + tuple(slow_fold(fold, record, was) for fold, was in zip(folds, held)))


def slow_fold(fold, record, was):
    if fold[0] == "count":
        return 1 if was is None else was + 1
    new = record[fold[1]]
    if was is None or fold[0] == "last":
        return new
    if fold[0] == "sum" and abs(was + new) > TOP:
        raise Falls("great")
    return {"sum": was + new, "least": min(was, new), "most": max(was, new)}[fold[0]]


if __name__ == "__main__":
    unittest.main()
