"""Many programs and their tables, made by a chance that is always the same."""

from random import Random

from rowhaul.programs.forms import is_program, is_tables
from tests.things import LOW, TOP

OPS = ("plus", "minus", "times", "over", "rest", "less", "same")
SMALL = (-9, -3, -2, -1, 0, 1, 2, 3, 9)
GREAT = (LOW, LOW + 1, -40000, 40000, TOP - 1, TOP)


def some_word(chance):
    return chance.choice(GREAT) if chance.random() < 0.1 else chance.choice(SMALL)


def some_expr(chance, width, carried=False, ops=2):
    if ops > 0 and chance.random() < 0.6:
        return (chance.choice(OPS), some_expr(chance, width, carried, ops - 1),
                some_expr(chance, width, carried, ops - 1))
    if carried and chance.random() < 0.4:
        return ("was",)
    if chance.random() < 0.7:
        return ("at", chance.randrange(width))
    return some_word(chance)


def some_range(chance):
    if chance.random() < 0.5:
        return (-2, 3)
    return tuple(sorted((some_word(chance), some_word(chance))))


def some_fold(chance, width):
    word = chance.choice(("sum", "sum", "least", "most", "last", "count"))
    return ("count",) if word == "count" else (word, chance.randrange(width))


def some_keys(chance, width):
    columns = chance.sample(range(width), chance.randint(1, min(3, width)))
    return tuple((column, chance.choice(("up", "down"))) for column in columns)


def some_node(chance, nodes, widths):
    word = chance.choice(("map", "map", "keep", "carry", "sort", "sort", "gather", "gather", "look", "both", "beside",
                          "first"))
    i, j = chance.randrange(len(nodes)), chance.randrange(len(nodes))
    width = widths[i]
    if word == "map":
        return (word, i, tuple(some_expr(chance, width) for _ in range(chance.randint(1, 4))))
    if word == "keep":
        return (word, i, some_expr(chance, width))
    if word == "carry":
        return (word, i, some_expr(chance, width, True), some_word(chance))
    if word == "sort":
        return (word, i, some_keys(chance, width))
    if word == "gather":
        return (word, i, chance.randint(0, width), tuple(some_fold(chance, width) for _ in range(chance.randint(0, 3))))
    if word == "look":
        return (word, i, j, chance.randrange(width), chance.randrange(widths[j]))
    if word in ("both", "beside"):
        return (word, i, j)
    return (word, i, chance.choice((0, 1, 2, 5, 400)))


def some_program(chance):
    nodes = []
    widths = []
    for k in range(chance.randint(1, 2)):
        nodes.append(("read", "ab"[k], tuple(some_range(chance) for _ in range(chance.randint(1, 3))),
                      chance.choice((0, 1, 6, 6, 6, 200))))
        widths.append(len(nodes[-1][2]))
    many = chance.randint(1, 7)
    for _ in range(40):
        if len(nodes) >= many:
            break
        node = some_node(chance, nodes, widths)
        program = ((*nodes, node), (0,))
        if is_program(program):
            nodes.append(node)
            width = {"map": lambda: len(node[2]), "carry": lambda: widths[node[1]] + 1,
                     "gather": lambda: node[2] + len(node[3]), "look": lambda: widths[node[1]] + widths[node[2]],
                     "beside": lambda: widths[node[1]] + widths[node[2]]}
            widths.append(width.get(node[0], lambda: widths[node[1]])())
    outputs = sorted(set(chance.randrange(len(nodes)) for _ in range(chance.randint(1, 2))))
    return (tuple(nodes), tuple(outputs))


def some_tables(chance, program):
    tables = {}
    for node in program[0]:
        if node[0] == "read":
            many = chance.randint(0, min(node[3], 8))
            tables[node[1]] = tuple(
                tuple(chance.choice((low, high, chance.randint(low, high))) for low, high in node[2])
                for _ in range(many))
    assert is_tables(program, tables)
    return tables


def many_programs(many, seed=1):
    chance = Random(seed)
    return [some_program(chance) for _ in range(many)]


def with_tables(many, seed=2):
    """Pairs of a program and its tables, each program with some."""
    chance = Random(seed)
    told = []
    for program in many_programs(many, seed):
        for _ in range(4):
            told.append((program, some_tables(chance, program)))
    return told
