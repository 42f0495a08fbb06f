import unittest
from random import Random

from rowhaul.errors import AtEnd, Missing, NoNumber
from rowhaul.machine.store import Store
from tests.things import ANYTHING, NO_WHOLE, Unchanged

NODE, OTHER = ("node", 1), ("node", 10)
RUN, RUN_1 = ("run", (2, "cast"), 0), ("run", (2, "cast"), 1)
AHEAD = ("ahead", (2, "cast"), 0)
FILES = ((AHEAD, ((1, 2),)), (NODE, ((3,), (4,), (5,))), (OTHER, ()), (RUN, ((1, 2), (3, 4))), (RUN_1, ((5, 6, 7),)))
NO_NAMES = ANYTHING + [
    ("node", 2), ("node", -1), ("node", True), ("node", "1"), ("node",), ("node", 1, 0), ["node", 1], ("node", [1]),
    ("node", (1,)), ("node", None), ("run", (2, "cast"), 2), ("run", (2, "cast"), -1), ("run", (2, "cast"), False),
    ("run", (2, "cast"), True), ("run", (2, "left"), 0), ("run", (3, "cast"), 0), ("run", [2, "cast"], 0), ("run", 2, 0),
    ("run", (2, "cast")), ("run", (2, "cast"), 0, 0), ("run", (2, ["cast"]), 0), ("run", (2, "cast"), [0]),
    ("run", (2, {}), 0), ("ahead", (2, "cast"), 1), ("Run", (2, "cast"), 0), (["run"], (2, "cast"), 0), "node",
    ("run", ([2], "cast"), 0), ("run", (2, "cast", [0]), 0), ("run", (2,), 0), ("run", (), 0), ("run", (2, "cast"), {}),
    {"node": 1}, ((("node", 1),),), (NODE,), ("run", ((2, "cast"),), 0), ("file", 1)]


class Reading(unittest.TestCase):
    def test_files(self):
        store = Store(FILES)
        self.assertEqual(store.files(), FILES)
        self.assertEqual(store.names(), tuple(name for name, _ in FILES))
        self.assertEqual([store.rows_in(name) for name, _ in FILES], [rows for _, rows in FILES])
        self.assertEqual([store.how_many(name) for name, _ in FILES], [1, 3, 0, 2, 1])
        self.assertEqual(store.moved(), 0)

    def test_none(self):
        for store in (Store(), Store(())):
            self.assertEqual((store.files(), store.names(), store.moved(), len(store)), ((), (), 0, 0))

    def test_read(self):
        store = Store(FILES)
        self.assertEqual(store.read(NODE, 2), (5,))
        self.assertEqual(store.read(NODE, 0), (3,))
        self.assertEqual(store.read(RUN, 1), (3, 4))
        self.assertEqual(store.read(RUN_1, 0), (5, 6, 7))
        self.assertEqual(store.files(), FILES)

    def test_no_file(self):
        store = Store(FILES)
        for thing in NO_NAMES:
            for ask in (store.rows_in, store.how_many, store.take_off, lambda name: store.read(name, 0),
                        lambda name: store.read(name, None)):
                with self.assertRaises(Missing) as caught:
                    ask(thing)
                self.assertEqual(repr(caught.exception.name), repr(thing))
        self.assertEqual((store.files(), store.moved()), (FILES, 0))

    def test_truths_are_no_numbers_of_names(self):
        files = ((("node", 0), ((1,),)), (("node", 1), ((1,),)), (("run", (1, "cast"), 0), ((1,),)),
                 (("run", (1, "cast"), 1), ((1,),)))
        store = Store(files)
        for thing in (("node", False), ("node", True), ("run", (True, "cast"), 0), ("run", (1, "cast"), False),
                      ("run", (1, "cast"), True)):
            with self.assertRaises(Missing):
                store.rows_in(thing)
        self.assertEqual([store.how_many(name) for name, _ in files], [1] * 4)

    def test_no_number(self):
        store = Store(FILES)
        for thing in NO_WHOLE + [-1, -(10 ** 59)]:
            for name in (NODE, OTHER):
                with self.assertRaises(NoNumber):
                    store.read(name, thing)
        self.assertEqual(store.moved(), 0)

    def test_at_end(self):
        store = Store(FILES)
        for name, number in ((NODE, 3), (NODE, 4), (NODE, 10 ** 59), (OTHER, 0), (RUN_1, 1)):
            with self.assertRaises(AtEnd) as caught:
                store.read(name, number)
            self.assertEqual(caught.exception.name, name)
        self.assertEqual(store.moved(), 0)


class Writing(unittest.TestCase):
    def test_behind_all_of_the_file(self):
        store = Store(FILES)
        self.assertIsNone(store.write(NODE, (6,)))
        store.write(NODE, (7, 8))
        store.write(OTHER, (9,))
        self.assertEqual(store.rows_in(NODE), ((3,), (4,), (5,), (6,), (7, 8)))
        self.assertEqual(store.rows_in(OTHER), ((9,),))
        self.assertEqual(store.how_many(NODE), 5)
        self.assertEqual(store.read(NODE, 4), (7, 8))

    def test_a_first_one_makes_the_file(self):
        store = Store()
        for name in (RUN_1, NODE, AHEAD, OTHER, RUN):
            store.write(name, (1,))
            self.assertEqual(store.rows_in(name), ((1,),))
        self.assertEqual(store.names(), (AHEAD, NODE, OTHER, RUN, RUN_1))

    def test_take_off(self):
        store = Store(FILES)
        self.assertIsNone(store.take_off(RUN))
        self.assertEqual(store.names(), (AHEAD, NODE, OTHER, RUN_1))
        with self.assertRaises(Missing):
            store.take_off(RUN)
        with self.assertRaises(Missing):
            store.read(RUN, 0)
        store.write(RUN, (9,))
        self.assertEqual(store.rows_in(RUN), ((9,),))
        store.take_off(OTHER)
        self.assertNotIn(OTHER, store.names())

    def test_moved(self):
        store = Store(FILES)
        store.read(RUN_1, 0)
        self.assertEqual(store.moved(), 3)
        store.read(RUN_1, 0)
        self.assertEqual(store.moved(), 6)
        store.write(OTHER, (1, 2))
        self.assertEqual(store.moved(), 8)
        store.write(("node", 99), (1,) * 9)
        self.assertEqual(store.moved(), 17)
        for _ in range(2):
            store.rows_in(NODE), store.how_many(NODE), store.names(), store.files(), len(store), store == Store()
        store.take_off(NODE)
        self.assertEqual(store.moved(), 17)


class Alike(unittest.TestCase):
    def test_the_same_files(self):
        self.assertTrue(Store(FILES) == Store(FILES))
        self.assertFalse(Store(FILES) != Store(FILES))
        self.assertTrue(Store() == Store(()))
        made = Store()
        for name, rows in reversed(FILES):
            for record in rows:
                made.write(name, record)
        self.assertFalse(made == Store(FILES))
        self.assertTrue(made == Store(tuple(pair for pair in FILES if pair[1])))

    def test_others(self):
        for at in range(len(FILES)):
            self.assertFalse(Store(FILES) == Store(FILES[:at] + FILES[at + 1:]))
        self.assertTrue(Store(FILES) != Store())
        self.assertFalse(Store(((NODE, ((1,), (2,))),)) == Store(((NODE, ((2,), (1,))),)))
        self.assertFalse(Store(((NODE, ((1,),)),)) == Store(((OTHER, ((1,),)),)))
        self.assertFalse(Store(((NODE, ()),)) == Store())

    def test_what_is_no_store(self):
        for store in (Store(), Store(FILES)):
            for thing in ANYTHING + [FILES, dict(FILES), {NODE: [(3,), (4,), (5,)]}, {None: 1, (1, 2): 3}, "x" * 5000,
                                     list(FILES), object()]:
                self.assertIs(store == thing, False)
                self.assertIs(store != thing, True)

    def test_length(self):
        store = Store(FILES)
        self.assertEqual(len(store), 5)
        store.write(RUN, (1,))
        self.assertEqual(len(store), 5)
        store.write(("node", 3), (1,))
        self.assertEqual(len(store), 6)
        store.take_off(NODE)
        self.assertEqual(len(store), 5)


class Whole(unittest.TestCase):
    def test_what_is_told_is_not_the_store(self):
        store = Store(FILES)
        files, names, rows = store.files(), store.names(), store.rows_in(NODE)
        store.write(NODE, (6,))
        store.take_off(RUN)
        self.assertEqual((files, names, rows), (FILES, tuple(name for name, _ in FILES), ((3,), (4,), (5,))))

    def test_two_of_the_same_files(self):
        one, other = Store(FILES), Store(FILES)
        one.write(NODE, (6,))
        one.take_off(RUN)
        self.assertEqual((other.files(), other.moved()), (FILES, 0))

    def test_against_a_dict(self):
        chance = Random(4)
        store, told, moved = Store(), {}, 0
        names = [name for name, _ in FILES]
        for _ in range(2000):
            name = chance.choice(names)
            deed = chance.random()
            if deed < 0.5:
                record = (chance.randrange(3),) * chance.randint(1, 3)
                store.write(name, record)
                told.setdefault(name, []).append(record)
                moved += len(record)
            elif deed < 0.6 and name in told:
                store.take_off(name)
                del told[name]
            elif name in told:
                number = chance.randrange(len(told[name]))
                self.assertEqual(store.read(name, number), told[name][number])
                moved += len(told[name][number])
            self.assertEqual(store.files(), tuple(sorted((key, tuple(rows)) for key, rows in told.items())))
            self.assertEqual(store.moved(), moved)

    def test_by_name_and_as_it_was(self):
        with Unchanged(self, FILES):
            store = Store(files=FILES)
            store.write(record=(6,), name=NODE)
            self.assertEqual(store.read(number=3, name=NODE), (6,))
            self.assertEqual(store.rows_in(name=NODE), ((3,), (4,), (5,), (6,)))
            self.assertEqual(store.how_many(name=NODE), 4)
            store.take_off(name=RUN)
        self.assertEqual(len(store), 4)


if __name__ == "__main__":
    unittest.main()
