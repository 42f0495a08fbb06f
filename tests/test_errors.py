import unittest

from rowhaul import errors

UNDER_ROWS = ["NoProgram", "NoTables", "NoWays", "NoPass", "NoPlan", "NoCounts", "NoLengths", "NoNumber", "TooWide",
              "NoState", "Over", "Early", "Unfit", "NoText"]
UNDER_PYTHON = [("RowsError", ValueError), ("Falls", ArithmeticError), ("NoNode", IndexError),
                ("Overfull", OverflowError), ("Missing", KeyError), ("AtEnd", LookupError), ("Busy", RuntimeError)]
KEEP = [("Falls", "word"), ("NoNode", "node"), ("Unfit", "name"), ("NoText", "line"), ("Overfull", "many"),
        ("Missing", "name"), ("AtEnd", "name")]


class Errors(unittest.TestCase):
    def test_right_under_rows_error(self):
        for name in UNDER_ROWS:
            self.assertEqual(getattr(errors, name).__bases__, (errors.RowsError,), name)

    def test_right_under_pythons_own(self):
        for name, base in UNDER_PYTHON:
            self.assertEqual(getattr(errors, name).__bases__, (base,), name)

    def test_not_under_rows_error(self):
        for name, _ in UNDER_PYTHON[1:]:
            self.assertFalse(issubclass(getattr(errors, name), errors.RowsError), name)

    def test_defined_there(self):
        for name in UNDER_ROWS + [name for name, _ in UNDER_PYTHON]:
            self.assertEqual(getattr(errors, name).__module__, "rowhaul.errors")

    def test_of_a_text(self):
        for name in UNDER_ROWS + ["RowsError", "Busy"]:
            if name not in ("Unfit", "NoText"):
                self.assertEqual(str(getattr(errors, name)("a text")), "a text")

    def test_keep_what_they_are_made_of(self):
        for name, attribute in KEEP:
            for thing in ("great", 3, None, True, ("node", 2), [1, [2]], {"a": [1]}):
                for error in (getattr(errors, name)(thing), getattr(errors, name)(**{attribute: thing})):
                    self.assertEqual(repr(getattr(error, attribute)), repr(thing))

    def test_made_of_one_thing(self):
        for name, _ in KEEP:
            with self.assertRaises(TypeError):
                getattr(errors, name)()

    def test_what_was_asked_is_kept_as_a_copy(self):
        for make, attribute in ((errors.NoNode, "node"), (errors.Missing, "name")):
            asked = [1, ([2], {"a": [3]})]
            error = make(asked)
            asked[1][0].append(4)
            asked[1][1]["a"].append(5)
            asked.append(6)
            self.assertEqual(getattr(error, attribute), [1, ([2], {"a": [3]})])
            self.assertNotIn(asked, error.args)

    def test_can_be_caught_by_pythons_own(self):
        for name, base in UNDER_PYTHON:
            with self.assertRaises(base):
                raise getattr(errors, name)("great")


if __name__ == "__main__":
    unittest.main()
