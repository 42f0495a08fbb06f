"""The names and arguments of the interface stand as the document lists them, each in its own file."""

import inspect
import unittest
from importlib import import_module
from pathlib import Path

FUNCTIONS = {
    "words.exprs": "is_word(thing) is_record(thing) is_expr(thing,width,*,carried=False) worth(expr,record,*,was=0)",
    "words.folds": "is_fold(thing,width) folded(folds,records)",
    "programs.forms": "is_program(thing) width_of(program,node) most_of(program,node) inputs_of(program,node) "
                      "is_tables(program,thing)",
    "programs.plain": "plain(program,tables) counts_of(program,tables) rows_of(program,tables,node)",
    "knowing.ranges": "ranges_of(program) shows_ranges(program,thing) safe_nodes(program) needed(program)",
    "knowing.orders": "order_of(program,node) is_idle(program,node)",
    "merges.trees": "runs_of(count,size) moved(lengths,fan,thing) least(lengths,fan)",
    "merges.tables": "table_of(lengths,fan) shows(lengths,fan,number,thing)",
    "plans.ways": "all_ways(program) is_ways(program,thing) parts_of(program,ways) hangs_on(program,ways,part)",
    "plans.passes": "is_pass(program,ways,thing) driver_of(program,ways,one) stored_of(program,ways,one) "
                    "quarters(program,ways,one) fixed(program,ways,one) fits(program,room,ways,one) "
                    "told_room(program,room,ways,one) size_of(program,room,ways,part) fan_of(program,room,ways,part)",
    "plans.plans": "is_plan(program,room,thing)",
    "plans.words": "words_of(program,room,ways,one,counts) mosts_of(program) plan_words(program,room,plan,*,counts=None)",
    "search.sets": "closed_sets(program,ways)",
    "search.least": "least(program,room) shows_least(program,room,thing)",
    "search.rooms": "least_room(program) room_paper(program) shows_room(program,thing)",
    "machine.steps": "step_begin(program,k) stepped(program,k,held,record,number,*,table=()) step_end(program,k,held)",
    "machine.casts": "keys_of(program,part) cast_sorted(program,part,records) least_head(program,part,heads)",
    "running.states": "is_state(program,room,plan,thing)",
    "running.run": "run_from(program,room,plan,state)",
    "telling.stairs": "stairs(program,low,high) stairs_paper(program,low,high) shows_stairs(program,low,high,thing)",
    "telling.touched": "touched(program,room,plan,names) may_move(program,room,plan,names)",
    "texts.programs": "node_text(program,node) program_text(program) read_program(text)",
    "texts.plans": "plan_text(program,room,plan) read_plan(program,room,text)",
}
CLASSES = {
    "machine.store": ("Store", "__init__(self,files=()) names(self) rows_in(self,name) how_many(self,name) "
                               "read(self,name,number) write(self,name,record) take_off(self,name) moved(self) files(self) "
                               "__eq__(self,other) __len__(self)"),
    "machine.room": ("Room", "__init__(self,most) hold(self,holder,records) held(self,holder) holders(self) words(self) "
                             "peak(self)"),
    "machine.drivers": ("Driver", "__init__(self,program,room,ways,driver,store,held,*,phase=None,reads=()) "
                                  "turn(self,take) is_over(self) phase(self) reads(self) fault(self)"),
    "machine.passes": ("Doing", "__init__(self,program,room,plan,number,store,*,below=None,now=(),own=()) turn(self) "
                                "is_over(self) fault(self) words(self) turned(self) peak(self) now(self)"),
    "running.run": ("Run", "__init__(self,program,room,plan,tables) turn(self) go(self,turns) finish(self) is_over(self) "
                           "outcome(self) words(self) turned(self) peaks(self) lost(self) fall(self) state(self)"),
    "house.house": ("House", "__init__(self) put(self,name,rows) change(self,name,number,record) "
                             "put_in(self,name,number,record) strike(self,name,number) lead(self,name,program,room,*,plan=None) "
                             "drop(self,name) tables(self) programs(self) ask(self,name) begin(self,name) go(self,turns) "
                             "fall(self) leave(self) finish(self) is_busy(self)"),
}
ROOT = Path(__file__).resolve().parent.parent


def written(function):
    return function.__name__ + str(inspect.signature(function)).replace(" ", "")


class Interface(unittest.TestCase):
    def test_functions(self):
        for name, told in FUNCTIONS.items():
            module = import_module("rowhaul." + name)
            for text in told.split(" "):
                function = getattr(module, text.split("(")[0])
                self.assertEqual(function.__module__, module.__name__)
                self.assertEqual(written(function), text)

    def test_classes(self):
        for name, (word, told) in CLASSES.items():
            made = getattr(import_module("rowhaul." + name), word)
            self.assertEqual(made.__module__, "rowhaul." + name)
            for text in told.split(" "):
                method = vars(made)[text.split("(")[0]]
                self.assertEqual(written(method), text)

    def test_numbers(self):
        forms = import_module("rowhaul.programs.forms")
        self.assertEqual((forms.MOST_NODES, forms.MOST_WIDTH, forms.MOST_ROWS), (10, 8, 400))
        self.assertEqual(import_module("rowhaul.search.sets").MOST_SETS, 60)


class Readme(unittest.TestCase):
    def test_what_it_shows(self):
        """The code of the README runs, and tells what stands behind it."""
        pieces = (ROOT / "README.md").read_text(encoding="utf-8").split("```")
        code = [piece[len("python\n"):] for piece in pieces if piece.startswith("python\n")]
        told = {"print": lambda *_: None}
        for piece in code:
            exec(piece, told)
            for line in piece.split("\n"):
                shown, _, expected = line.partition("  # ")
                if expected and "=" not in shown:
                    self.assertEqual(eval(shown, told), eval(expected, told), line)


if __name__ == "__main__":
    unittest.main()
