"""Plans made by a chance that is always the same, and what a run of one must come to, said plainly."""

from rowhaul.machine.casts import cast_sorted
from rowhaul.machine.passes import Doing
from rowhaul.machine.store import Store
from rowhaul.merges.trees import least, runs_of
from rowhaul.plans.passes import driver_of, fan_of, fits, is_pass, size_of, stored_of, told_room
from rowhaul.plans.plans import is_plan
from rowhaul.plans.ways import all_ways, hangs_on, parts_of
from rowhaul.programs.forms import is_program, width_of
from rowhaul.programs.plain import rows_of
from tests.programs import some_keys, some_node

ROOMS = (16, 24, 32, 40, 48, 64, 80, 96, 120, 160, 240, 400, 800, 2000, 4000, 10000, 100000, 10 ** 6)


def some_pass(chance, program, room, ways, hung, done):
    """A pass of some parts that aren't done yet, or None where none was come upon; hung tells what parts hang on."""
    todo = [part for part in hung if part not in done]
    chance.shuffle(todo)
    greed = chance.choice((0.2, 0.6, 1, 1))

    def is_one(some):
        told = tuple(sorted(some))
        return is_pass(program, ways, told) and fits(program, room, ways, told)

    def is_ready(part, one):
        return all(other in one or other in done for other in hung[part])

    for first in todo:
        one = [first]
        while chance.random() <= greed:
            more = [part for part in todo if part not in one and is_ready(part, one) and is_one(one + [part])]
            if not more:
                break
            one.append(chance.choice(more))
        if is_one(one) and all(is_ready(part, one) for part in one):
            return tuple(sorted(one))
    return None


def some_plan(chance, program, room):
    """A plan of the program in the room, or None where none was come upon."""
    ways = chance.choice(all_ways(program))
    hung = {part: hangs_on(program, ways, part) for part in parts_of(program, ways)}
    done = []
    passes = []
    while len(done) < len(hung):
        one = some_pass(chance, program, room, ways, hung, done)
        if one is None:
            return None
        passes.append(one)
        done += one
    plan = (ways, tuple(passes))
    assert is_plan(program, room, plan)
    return plan


def room_and_plan(chance, program):
    """A room, a narrow one more often, and a plan there."""
    at = chance.choice((0, 0, 0, 3, 6, 9, 12))
    for room in ROOMS[at:]:
        for _ in range(3):
            plan = some_plan(chance, program, room)
            if plan is not None:
                return room, plan
    raise AssertionError("no plan found: " + repr(program))


def busy_program(chance):
    """A program with sorts and looks over rows enough for several runs."""
    nodes = []
    for k in range(chance.randint(1, 2)):
        ranges = tuple(chance.choice(((-2, 3), (0, 9), (0, 50))) for _ in range(chance.randint(1, 2)))
        nodes.append(("read", "ab"[k], ranges, chance.choice((3, 20, 40, 80))))
    widths = [len(node[2]) for node in nodes]
    many = chance.randint(3, 10)
    for _ in range(60):
        if len(nodes) >= many:
            break
        i, j = chance.randrange(len(nodes)), chance.randrange(len(nodes))
        node = chance.choice((
            ("sort", i, some_keys(chance, widths[i])), some_node(chance, nodes, widths),
            ("look", i, j, chance.randrange(widths[i]), chance.randrange(widths[j])), some_node(chance, nodes, widths)))
        if is_program(((*nodes, node), (0,))):
            nodes.append(node)
            widths.append(width_of((tuple(nodes), (0,)), len(nodes) - 1))
    outputs = {len(nodes) - 1} | {chance.randrange(len(nodes)) for _ in range(chance.randint(0, 2))}
    return (tuple(nodes), tuple(sorted(outputs)))


def busy_tables(chance, program):
    """Tables, often as long as they may be."""
    tables = {}
    for node in program[0]:
        if node[0] == "read":
            many = chance.choice((0, 1, node[3], node[3], chance.randint(0, node[3])))
            tables[node[1]] = tuple(tuple(chance.randint(low, high) for low, high in node[2])
                                    for _ in range(min(many, node[3])))
    return tables


def begun_store(program, tables):
    """The store with the tables of all reads."""
    return Store(tuple((("node", k), tables[node[1]]) for k, node in enumerate(program[0]) if node[0] == "read"))


def node_rows(store, k):
    return store.rows_in(("node", k)) if ("node", k) in store.names() else ()


def casters_of(program, part):
    """The parts whose runs a part reads."""
    k, word = part
    if word == "merge":
        return ((k, "cast" if program[0][k][0] == "sort" else "meet"),)
    return ((k, "left"), (k, "right")) if word == "meet" else ()


def cast_of(program, tables, part):
    """The records that come to a part that casts, as it casts them, by what plain tells."""
    k, word = part
    node = program[0][k]
    if word == "cast":
        return rows_of(program, tables, node[1])
    if word == "right":
        return rows_of(program, tables, node[2])
    lefts = tuple(record + (number,) for number, record in enumerate(rows_of(program, tables, node[1])))
    if word == "left":
        return lefts
    # What a meet joins comes by c, then the number.
    rows = rows_of(program, tables, node[2])
    told = []
    for record in sorted(lefts, key=lambda one: (one[node[3]], one[-1])):
        found = [other for other in rows if other[node[4]] == record[node[3]]]
        told += [record[:-1] + other + record[-1:] for other in found[:1]]
    return tuple(told)


def runs_files(program, room, ways, tables, part):
    """The files of the runs that a part casts."""
    rows = cast_of(program, tables, part)
    told = {}
    first = 0
    for number, many in enumerate(runs_of(len(rows), size_of(program, room, ways, part))):
        told[("run", part, number)] = cast_sorted(program, part, rows[first:first + many])
        first += many
    return told


def files_behind(program, room, plan, tables, number):
    """All files behind so many passes, where no node faults."""
    ways, passes = plan
    told = {("node", k): tables[node[1]] for k, node in enumerate(program[0]) if node[0] == "read"}
    for one in passes[:number]:
        for k in stored_of(program, ways, one):
            rows = rows_of(program, tables, k)
            if rows:
                told[("node", k)] = rows
        for part in one:
            if part[1] in ("cast", "left", "right", "meet"):
                told.update(runs_files(program, room, ways, tables, part))
    return tuple(sorted(told.items()))


def moved_ahead(program, room, ways, tables, part):
    """For each part whose runs a part reads: how many records are moved ahead, and the width of one."""
    told = []
    for caster, fan in zip(casters_of(program, part), fan_of(program, room, ways, part)):
        rows = cast_of(program, tables, caster)
        lengths = runs_of(len(rows), size_of(program, room, ways, caster))
        told.append((least(lengths, fan)[0], len(rows[0]) if rows else 0, len(rows)))
    return told


def words_and_turns(program, room, ways, one, tables):
    """How many words a pass moves, and its turns, where no node faults."""
    nodes, _ = program
    driver = driver_of(program, ways, one)
    many = [len(rows_of(program, tables, k)) for k in range(len(nodes))]
    width = [width_of(program, k) for k in range(len(nodes))]
    words = turns = 0
    if driver[0] == "file":
        words += many[driver[1]] * width[driver[1]]
        turns += many[driver[1]]
    elif driver[1] in ("both", "beside", "block"):
        i, j = nodes[driver[0]][1:3]
        again = 1
        if driver[1] == "block":
            again = len(runs_of(many[i], size_of(program, room, ways, driver)))
        words += many[i] * width[i] + again * many[j] * width[j]
        turns += {"both": many[i] + many[j], "beside": many[i], "block": 2 * many[i] + again * many[j]}[driver[1]]
    for moved, wide, rows in moved_ahead(program, room, ways, tables, driver) if driver[0] != "file" else ():
        words += 2 * moved * wide + rows * wide
        turns += moved + rows
    for k, word in one:
        if word == "step" and nodes[k][0] == "look":
            words += many[nodes[k][2]] * width[nodes[k][2]]
            turns += many[nodes[k][2]]
        if word in ("cast", "left", "right", "meet"):
            words += sum(len(record) for record in cast_of(program, tables, (k, word)))
        turns += word in ("cast", "left", "right", "meet") or (word == "step" and nodes[k][0] == "gather")
    return words + sum(many[k] * width[k] for k in stored_of(program, ways, one)), turns


def lead(program, room, plan, tables, look_at=None):
    """All passes of a plan, one behind the other: the outcome and the store.

    Ahead of each turn look_at is called with the pass, its number, the store, and below.
    """
    store = begun_store(program, tables)
    lowest = ()
    for number, one in enumerate(plan[1]):
        below = lowest[0] if lowest else None
        if lowest and all(part[0] >= below for part in one):
            continue
        doing = Doing(program, room, plan, number, store, below=below)
        told = told_room(program, room, plan[0], one)
        while not doing.is_over():
            if look_at is not None:
                look_at(doing, number, store, below)
            doing.turn()
        assert doing.peak() <= told
        lowest = doing.fault() or lowest
    if lowest:
        return ("fault", lowest), store
    return ("rows", tuple(node_rows(store, k) for k in program[1])), store
