"""What an ask must tell, said plainly: a fresh run pass by pass, each compared with when it was last done."""

from rowhaul.machine.passes import Doing
from rowhaul.machine.store import Store
from rowhaul.plans.passes import driver_of
from rowhaul.programs.forms import inputs_of
from rowhaul.programs.plain import plain
from tests.plans import casters_of


def read_rows(program, ways, parts, store):
    """The rows of each file that a pass of these parts reads."""
    driver = driver_of(program, ways, parts)
    nodes, runs = [], []
    if driver[0] == "file":
        nodes.append(driver[1])
    elif driver[1] in ("both", "beside", "block"):
        nodes += inputs_of(program, driver[0])
    else:
        runs += casters_of(program, driver)
    nodes += [inputs_of(program, k)[1] for k, word in parts if word == "step" and program[0][k][0] == "look"]
    files = dict(store.files())
    told = {("node", k): files.get(("node", k), ()) for k in nodes}
    told.update({name: rows for name, rows in files.items() if name[0] == "run" and name[1] in runs})
    return told


class Memory:
    """When a program's passes were last done: their parts, and what they read."""

    def __init__(self, program, room, plan):
        self.asked = (program, room, plan)
        self.last = {}

    def ask(self, tables, passes=None):
        """The outcome, the passes done again, their words; of so many passes alone where that is told."""
        program, room, plan = self.asked
        store = Store(tuple((("node", k), tables[node[1]]) for k, node in enumerate(program[0]) if node[0] == "read"))
        below, again, words = None, [], 0
        for number, one in enumerate(plan[1][:passes]):
            parts = tuple(part for part in one if below is None or part[0] < below)
            if not parts:
                continue
            now = (parts, read_rows(program, plan[0], parts, store))
            doing = Doing(program, room, plan, number, store, below=below)
            while not doing.is_over():
                doing.turn()
            if doing.fault() != ():
                below = doing.fault()[0]
            if self.last.get(number) != now:
                self.last[number] = now
                again.append(number)
                words += doing.words()
        return plain(program, tables), tuple(again), words
