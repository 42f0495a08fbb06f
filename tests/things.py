"""Things of every kind, and what the tests share about them."""

from copy import deepcopy

TOP = 10 ** 9
LOW = -TOP


def nested(make, deep):
    thing = 1
    for _ in range(deep):
        thing = make(thing)
    return thing


ANYTHING = [
    0, 1, 2, -1, 7, 10 ** 29, -(10 ** 29), 10 ** 59, -(10 ** 59),
    True, False, None,
    "", "a", "at", "was", "count", "read", "up", "1", "x" * 100, "~ \n",
    (), (1,), (True,), (None,), ("at",), ("at", 0, 0), ("at", "0"), ("at", True), ("at", None), ("at", [0]),
    ("at", (0,)), ([], 1), ([], 1, 2), ({}, {}, {}), ((), 1), (1, 2), (1, 2, 3), ("count", 0), ("sum",), ("sum", None),
    ("plus", 1), ("plus", 1, 2, 3), ("plus", [1], [2]), ((), ()), (((), ()), (0,)), ((1,), (0,)), ((None,), (0,)),
    (("read",), (0,)), ((("read",),), (0,)), (([],), (0,)), ((([],),), (0,)), (((),), (0,)), ((({},),), (0,)),
    [], [1], [[]], ["at", 0], ["count"], [(), ()],
    {}, {"a": 1}, {1: 2}, {1: (0,)}, {"a": [1]}, {"at": 0},
    tuple(range(300)), list(range(300)), {k: k for k in range(300)}, ((),) * 300, (True,) * 9,
    nested(lambda thing: (thing,), 20), nested(lambda thing: [thing], 20), nested(lambda thing: {1: thing}, 20),
    nested(lambda thing: ("plus", thing, 1), 20),
]

NO_WHOLE = [thing for thing in ANYTHING if not isinstance(thing, int) or isinstance(thing, bool)]

SALE = ("read", "sale", ((0, 9), (-5, 5)), 60)
NAMES = ("read", "names", ((0, 9), (0, 100), (0, 3)), 20)


def alone(*nodes, outputs=None):
    """The program of some nodes, its output the last one."""
    return (nodes, (len(nodes) - 1,) if outputs is None else outputs)


def over_sale(*nodes):
    """The program of a read of width 2 and some nodes behind it."""
    return alone(SALE, *nodes)


class Unchanged:
    """Looks at some things ahead and behind: what is handed in stays as it was."""

    def __init__(self, test, *things):
        self.test = test
        self.things = things

    def __enter__(self):
        self.copies = deepcopy(self.things)

    def __exit__(self, kind, value, trace):
        if kind is None:
            self.test.assertEqual(repr(self.things), repr(self.copies))
