"""The rules of the subset of Python that the package keeps to, as far as they are easily seen."""

import ast
import builtins
import re
import unittest
from pathlib import Path

ROOT = Path(__file__).resolve().parent.parent
PACKAGE = ROOT / "rowhaul"
FILES = sorted(path for path in PACKAGE.rglob("*") if path.is_file() and "__pycache__" not in path.parts)
CODE = {path: path.read_text(encoding="utf-8") for path in FILES}
TREES = {path: ast.parse(text) for path, text in CODE.items()}

BUILTINS = set("""len range enumerate zip min max sum abs sorted reversed int str bool list tuple dict set isinstance ord
repr any all divmod Exception ValueError TypeError KeyError IndexError LookupError ZeroDivisionError ArithmeticError
OverflowError RuntimeError NotImplemented map super property""".split()) - {"map", "super", "property"}
METHODS = set("""append clear copy count endswith extend find get index insert isalnum isalpha isdigit islower isspace
isupper items join keys ljust lower lstrip partition pop remove replace reverse rfind rjust rpartition rsplit rstrip
setdefault split splitlines startswith strip update upper values zfill bit_length""".split())
STATEMENTS = (ast.FunctionDef, ast.ClassDef, ast.Import, ast.ImportFrom, ast.Assign, ast.Expr)
BARRED = ("mro elements open input law version_info with_traceback add_note register attrgetter breakpoint builtins "
          "compile copyright credits delattr dir eval exec exit gc getattr globals hasattr help id importlib license "
          "locals methodcaller os quit setattr super type vars sys typing enum dataclass overload").split()
LIBRARY = {"heapq", "math", "itertools", "collections"}
DOUBLE = {"__init__", "__eq__", "__repr__", "__str__", "__len__"}


def everywhere(kind):
    return [(path, node) for path, tree in TREES.items() for node in ast.walk(tree) if isinstance(node, kind)]


def bound_names(function):
    """The parameters and local names of a function."""
    names = [arg.arg for arg in ast.walk(function) if isinstance(arg, ast.arg)]
    names += [node.id for node in ast.walk(function) if isinstance(node, ast.Name) and isinstance(node.ctx, ast.Store)]
    names += [node.name for node in ast.walk(function) if isinstance(node, ast.ExceptHandler) and node.name]
    return names


class Files(unittest.TestCase):
    def test_files(self):
        self.assertLessEqual(len(FILES), 100)
        for path in FILES:
            self.assertRegex(path.name, r"^([a-z][a-z0-9_]*|__init__)\.py$")
        folders = {path.parent for path in FILES}
        for folder in folders:
            self.assertIn(folder / "__init__.py", FILES)
            self.assertFalse((folder.parent / (folder.name + ".py")).exists())

    def test_sizes_and_signs(self):
        for path, text in CODE.items():
            lines = text.split("\n")
            self.assertLessEqual(len(lines), 399, path)
            self.assertTrue(all(len(line) <= 120 for line in lines), path)
            self.assertIsNone(re.search(r"[^ -~\n]", text), path)
        for path, node in everywhere(ast.FunctionDef):
            self.assertLessEqual(node.end_lineno - node.lineno + 1, 40, (path, node.name))

    def test_module_level(self):
        for path, tree in TREES.items():
            bound = []
            for node in tree.body:
                self.assertIsInstance(node, STATEMENTS, path)
                if isinstance(node, ast.Expr):
                    self.assertIsInstance(node.value, ast.Constant, path)
                if isinstance(node, (ast.FunctionDef, ast.ClassDef)):
                    bound.append(node.name)
                if isinstance(node, ast.Assign):
                    self.assertEqual(len(node.targets), 1, path)
                    self.assertIsInstance(node.targets[0], ast.Name, path)
                    bound.append(node.targets[0].id)
                    calls = [part for part in ast.walk(node.value) if isinstance(part, (ast.Call, ast.Set, ast.Lambda))]
                    self.assertEqual(calls, [], path)
                if isinstance(node, ast.ImportFrom):
                    bound += [alias.name for alias in node.names]
            self.assertEqual(len(bound), len(set(bound)), path)
            self.assertEqual([name for name in bound if hasattr(builtins, name)], [], path)

    def test_imports(self):
        reads = {}
        for path, node in everywhere((ast.Import, ast.ImportFrom)):
            self.assertIsInstance(node, ast.ImportFrom, path)
            self.assertEqual(node.level, 0, path)
            self.assertIn(node, TREES[path].body, path)
            self.assertTrue(all(alias.asname is None and alias.name != "*" for alias in node.names), path)
            if node.module in LIBRARY:
                continue
            self.assertTrue(node.module.startswith("rowhaul."), path)
            source = ROOT / (node.module.replace(".", "/") + ".py")
            defined = [part.name for part in TREES[source].body if isinstance(part, (ast.FunctionDef, ast.ClassDef))]
            defined += [part.targets[0].id for part in TREES[source].body if isinstance(part, ast.Assign)]
            for alias in node.names:
                self.assertIn(alias.name, defined, path)
            reads.setdefault(path, []).append(source)
        for path in reads:
            self.assertNotIn(path, reached(reads, path))

    def test_imports_are_used(self):
        for path, node in everywhere(ast.ImportFrom):
            used = {part.id for part in ast.walk(TREES[path]) if isinstance(part, ast.Name)}
            for alias in node.names:
                self.assertIn(alias.name, used, path)


def reached(reads, path):
    seen = set()
    todo = list(reads.get(path, []))
    while todo:
        one = todo.pop()
        if one not in seen:
            seen.add(one)
            todo += reads.get(one, [])
    return seen


class Names(unittest.TestCase):
    def test_plain_names(self):
        for path, node in everywhere((ast.FunctionDef, ast.ClassDef)):
            if node.name not in DOUBLE:
                self.assertRegex(node.name, r"^_?[A-Za-z][A-Za-z0-9_]*$", path)
            self.assertNotIn(node.name, BARRED, path)
        for path, node in everywhere(ast.Name):
            self.assertRegex(node.id, r"^(_|_?[A-Za-z][A-Za-z0-9_]*)$", path)
            self.assertNotIn(node.id, BARRED, path)
            self.assertFalse(node.id == "_" and isinstance(node.ctx, ast.Load), path)
        for path, node in everywhere(ast.arg):
            self.assertNotIn(node.arg, BARRED, path)

    def test_local_names(self):
        for path, tree in TREES.items():
            taken = [node.name for node in tree.body if isinstance(node, (ast.ClassDef, ast.FunctionDef))]
            taken += [alias.name for node in tree.body if isinstance(node, ast.ImportFrom) for alias in node.names]
            for node in ast.walk(tree):
                if isinstance(node, ast.FunctionDef):
                    for name in bound_names(node):
                        self.assertNotIn(name, taken, (path, node.name))
                        self.assertFalse(hasattr(builtins, name), (path, node.name, name))

    def test_builtins(self):
        for path, node in everywhere(ast.Name):
            if hasattr(builtins, node.id):
                self.assertIn(node.id, BUILTINS, path)

    def test_methods_of_builtin_values(self):
        own = {node.name for _, node in everywhere(ast.FunctionDef)}
        for path, node in everywhere(ast.Call):
            if isinstance(node.func, ast.Attribute):
                self.assertIn(node.func.attr, METHODS | own | DOUBLE, path)
                self.assertNotEqual(node.func.attr, "sort", path)


def methods_and_attributes(node, classes):
    """The methods of a class and the attributes that it assigns to its own objects, those of its bases too."""
    methods = {part.name for part in node.body if isinstance(part, ast.FunctionDef)} - DOUBLE
    attributes = {part.attr for part in ast.walk(node) if isinstance(part, ast.Attribute)
                  and isinstance(part.ctx, ast.Store)}
    for base in node.bases:
        if base.id in classes:
            more, others = methods_and_attributes(classes[base.id], classes)
            methods, attributes = methods | more, attributes | others
    return methods, attributes


class Classes(unittest.TestCase):
    def test_no_name_is_a_method_and_an_attribute(self):
        classes = {node.name: node for _, node in everywhere(ast.ClassDef)}
        told = [methods_and_attributes(node, classes) for node in classes.values()]
        methods = set().union(*[one for one, _ in told])
        attributes = set().union(*[other for _, other in told])
        self.assertEqual(methods & attributes, set())

    def test_attributes_that_are_read_are_assigned(self):
        assigned = {node.attr for _, node in everywhere(ast.Attribute) if isinstance(node.ctx, ast.Store)}
        own = {node.name for _, node in everywhere(ast.FunctionDef)}
        for path, node in everywhere(ast.Attribute):
            if isinstance(node.ctx, ast.Load):
                self.assertIn(node.attr, assigned | own | METHODS, path)

    def test_alike_begins_with_the_kind(self):
        for path, node in everywhere(ast.FunctionDef):
            if node.name == "__eq__":
                self.assertIsInstance(node.body[0], ast.If, path)
                self.assertTrue(ast.unparse(node.body[0].test).startswith("not isinstance(other, "), path)
            if node.name == "__len__":
                self.assertTrue(ast.unparse(node.body[-1]).startswith("return len("), path)

    def test_nothing_is_called_that_a_table_tells_on_the_spot(self):
        for path, node in everywhere(ast.Call):
            self.assertIsInstance(node.func, (ast.Name, ast.Attribute), path)


class Loops(unittest.TestCase):
    CHANGES = ("append", "clear", "extend", "insert", "pop", "remove", "reverse", "setdefault", "update")

    def test_what_is_gone_through_is_not_changed(self):
        for path, loop in everywhere(ast.For):
            names = {ast.unparse(part) for part in ast.walk(loop.iter) if isinstance(part, (ast.Name, ast.Attribute))}
            for node in [part for statement in loop.body for part in ast.walk(statement)]:
                if isinstance(node, ast.Call) and isinstance(node.func, ast.Attribute) and node.func.attr in self.CHANGES:
                    self.assertNotIn(ast.unparse(node.func.value), names, (path, loop.lineno))
                if isinstance(node, ast.Subscript) and not isinstance(node.ctx, ast.Load):
                    self.assertNotIn(ast.unparse(node.value), names, (path, loop.lineno))


class Statements(unittest.TestCase):
    def test_nothing_else(self):
        barred = (ast.AsyncFunctionDef, ast.Global, ast.Await, ast.JoinedStr, ast.GeneratorExp, ast.Yield,
                  ast.YieldFrom, ast.NamedExpr, ast.With, ast.Match, ast.Lambda, ast.AnnAssign, ast.Div)
        self.assertEqual([(path.name, node.lineno) for path, node in everywhere(barred) if hasattr(node, "lineno")], [])
        self.assertEqual(everywhere((ast.Div, ast.MatMult)), [])
        for path, node in everywhere((ast.FunctionDef, ast.ClassDef)):
            self.assertEqual(node.decorator_list, [], path)

    def test_constants(self):
        for path, node in everywhere(ast.Constant):
            self.assertNotIsInstance(node.value, (float, complex, bytes), path)
            if isinstance(node.value, str):
                self.assertNotIn("%", node.value, path)

    def test_sets(self):
        for path, node in everywhere((ast.Set, ast.SetComp)):
            self.assertTrue(any(node in call.args and call.func.id in ("len", "sorted")
                                for where, call in everywhere(ast.Call)
                                if where == path and isinstance(call.func, ast.Name)), path)

    def test_is(self):
        for path, node in everywhere(ast.Compare):
            for op, right in zip(node.ops, node.comparators):
                if isinstance(op, (ast.Is, ast.IsNot)):
                    self.assertIsInstance(right, ast.Constant, path)

    def test_powers(self):
        for path, node in everywhere(ast.BinOp):
            if isinstance(node.op, ast.Pow):
                self.assertIsInstance(node.right, ast.Constant, path)

    def test_raise_and_except(self):
        classes = {node.name for _, node in everywhere(ast.ClassDef)}
        for path, node in everywhere(ast.Raise):
            self.assertTrue(node.exc is None or node.exc.func.id in classes, path)
        for path, node in everywhere(ast.ExceptHandler):
            self.assertIn(node.type.id, classes | {"KeyError", "ZeroDivisionError"}, path)

    def test_defaults(self):
        for path, node in everywhere(ast.arguments):
            for default in node.defaults + [part for part in node.kw_defaults if part is not None]:
                ast.literal_eval(default)
            self.assertEqual((node.vararg, node.kwarg, node.posonlyargs), (None, None, []), path)

    def test_chained_views(self):
        for path, node in everywhere(ast.Assign):
            if isinstance(node.value, ast.Call) and isinstance(node.value.func, ast.Name):
                self.assertNotIn(node.value.func.id, ("zip", "enumerate", "reversed", "range", "set"), path)


if __name__ == "__main__":
    unittest.main()
