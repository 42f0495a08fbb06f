import unittest
from random import Random

from rowhaul.errors import NoNode, NoProgram, NoText, RowsError
from rowhaul.programs.forms import is_program
from rowhaul.texts.programs import node_text, program_text, read_program
from tests.programs import many_programs
from tests.things import ANYTHING, LOW, TOP, Unchanged, alone

SALE = ("read", "sale", ((0, 9), (-5, 5)), 60)
EXAMPLE = alone(SALE, ("keep", 0, ("less", ("at", 1), 0)), ("sort", 1, ((0, "up"),)),
                ("gather", 2, 1, (("sum", 1), ("count",))))
EXAMPLE_TEXT = "read sale 60 0..9 -5..5\nkeep 0 (less @1 0)\nsort 1 0:up\ngather 2 1 sum:1 count\nout 3"

# Of each form one, behind a read of width 2.
LINES = (
    (("map", 0, (("at", 0),)), "map 0 @0"),
    (("map", 0, (1, ("at", 1), ("plus", ("at", 0), -3))), "map 0 1 @1 (plus @0 -3)"),
    (("map", 0, (("over", ("times", 2, ("at", 1)), ("minus", ("rest", 5, 3), ("same", ("at", 0), LOW))),)),
     "map 0 (over (times 2 @1) (minus (rest 5 3) (same @0 -1000000000)))"),
    (("map", 0, (0,) * 8), "map 0 0 0 0 0 0 0 0 0"),
    (("keep", 0, 7), "keep 0 7"),
    (("keep", 0, ("less", ("at", 1), 0)), "keep 0 (less @1 0)"),
    (("keep", 0, ("plus", ("plus", ("plus", ("plus", 1, 2), 3), 4), 5)), "keep 0 (plus (plus (plus (plus 1 2) 3) 4) 5)"),
    (("carry", 0, ("was",), -8), "carry 0 -8 was"),
    (("carry", 0, ("plus", ("was",), ("at", 0)), TOP), "carry 0 1000000000 (plus was @0)"),
    (("carry", 0, 5, 0), "carry 0 0 5"),
    (("sort", 0, ((1, "down"),)), "sort 0 1:down"),
    (("sort", 0, ((1, "up"), (0, "down"))), "sort 0 1:up 0:down"),
    (("gather", 0, 2, ()), "gather 0 2"),
    (("gather", 0, 0, (("count",),)), "gather 0 0 count"),
    (("gather", 0, 1, (("sum", 1), ("least", 0), ("most", 1), ("last", 0))), "gather 0 1 sum:1 least:0 most:1 last:0"),
    (("look", 0, 0, 1, 0), "look 0 0 1 0"),
    (("both", 0, 0), "both 0 0"),
    (("beside", 0, 0), "beside 0 0"),
    (("first", 0, 400), "first 0 400"),
    (("first", 0, 0), "first 0 0"),
)
READS = (
    (("read", "a", ((0, 0),), 0), "read a 0 0..0"),
    (("read", "abcdefgh", ((LOW, TOP), (-7, -3), (1, 1), (0, 5)), 200),
     "read abcdefgh 200 -1000000000..1000000000 -7..-3 1..1 0..5"),
)


class Writing(unittest.TestCase):
    def test_the_example(self):
        self.assertEqual(program_text(EXAMPLE), EXAMPLE_TEXT)
        self.assertEqual([node_text(EXAMPLE, k) for k in range(4)], EXAMPLE_TEXT.split("\n")[:4])

    def test_each_kind_of_node(self):
        for node, line in READS:
            self.assertEqual(node_text(alone(node), 0), line)
            self.assertEqual(program_text(alone(node)), line + "\nout 0")
        for node, line in LINES:
            self.assertTrue(is_program(alone(SALE, node)), line)
            self.assertEqual(node_text(alone(SALE, node), 1), line)
            self.assertEqual(program_text(alone(SALE, node)), "read sale 60 0..9 -5..5\n" + line + "\nout 1")

    def test_outputs(self):
        nodes = (SALE, ("first", 0, 1), ("first", 0, 2))
        self.assertEqual(program_text((nodes, (0, 1, 2))).split("\n")[-1], "out 0 1 2")
        self.assertEqual(program_text((nodes, (1,))).split("\n")[-1], "out 1")

    def test_refused(self):
        for thing in ANYTHING:
            with self.assertRaises(NoProgram):
                program_text(thing)
            for node in (0, None, thing):
                with self.assertRaises(NoProgram):
                    node_text(thing, node)
            if repr(thing) not in ("0", "1", "2"):
                with self.assertRaises(NoNode) as caught:
                    node_text(alone(SALE, ("first", 0, 1), ("first", 1, 1)), thing)
                self.assertEqual(repr(caught.exception.node), repr(thing))
        for node in (-1, 4, True):
            with self.assertRaises(NoNode):
                node_text(EXAMPLE, node)

    def test_by_name_and_as_it_was(self):
        with Unchanged(self, EXAMPLE):
            self.assertEqual(node_text(node=2, program=EXAMPLE), "sort 1 0:up")
            self.assertEqual(program_text(program=EXAMPLE).split("\n")[2], "sort 1 0:up")
        self.assertEqual(read_program(text=EXAMPLE_TEXT)[1], (3,))


class Reading(unittest.TestCase):
    def refused(self, text, line):
        with self.assertRaises(NoText) as caught:
            read_program(text)
        self.assertEqual(caught.exception.line, line, text)
        self.assertIsInstance(caught.exception, RowsError)

    def test_what_is_written(self):
        self.assertEqual(read_program(EXAMPLE_TEXT), EXAMPLE)
        for node, line in READS:
            self.assertEqual(read_program(line + "\nout 0"), alone(node))
        for node, line in LINES:
            self.assertEqual(read_program("read sale 60 0..9 -5..5\n" + line + "\nout 1"), alone(SALE, node))

    def test_many_programs(self):
        for program in many_programs(600, 31):
            told = read_program(program_text(program))
            self.assertEqual(told, program)
            self.assertEqual(repr(told), repr(program))

    def test_lines_out_twice_exchanged(self):
        lines = EXAMPLE_TEXT.split("\n")
        for at in range(5):
            self.refused("\n".join(lines[:at] + lines[at + 1:]), at)
        self.refused("\n".join(lines[:1] + lines), 1)
        self.refused("\n".join(lines + lines[-1:]), 5)
        self.refused("\n".join(lines[1:2] + lines[:1] + lines[2:]), 0)
        self.refused("\n".join(lines[:3] + lines[4:] + lines[3:4]), 3)
        self.assertEqual(read_program("\n".join(lines[:2] + lines[1:]))[0][2], ("keep", 0, ("less", ("at", 1), 0)))

    def test_outputs_too_early_left_out_twice(self):
        read = "read a 5 0..9"
        self.refused("out 0\n" + read, 0)
        self.refused(read + "\nout 0\nkeep 0 1\nout 1", 2)
        self.refused(read + "\nkeep 0 1", 2)
        self.refused(read, 1)
        self.refused(read + "\nout 0\nout 0", 2)
        for line in ("out", "out ", "out 1", "out -1", "out 0 0", "out 00", "out  0", "out 0 ", " out 0", "Out 0", "out 0,1",
                     "out 0 1", "out x", "out +0", "outs 0", "out0", "", "out -0"):
            self.refused(read + "\n" + line, 1)
        nodes = read + "\nkeep 0 1\nkeep 1 1\n"
        self.assertEqual(read_program(nodes + "out 0 2")[1], (0, 2))
        for line in ("out 2 0", "out 0 1 1", "out 0 3", "out 0 1 2 3"):
            self.refused(nodes + line, 3)

    def test_another_line_end_an_empty_line(self):
        self.refused("", 0)
        self.refused("\n", 0)
        self.refused("\n" + EXAMPLE_TEXT, 0)
        self.refused(EXAMPLE_TEXT + "\n", 5)
        self.refused(EXAMPLE_TEXT + "\n\n", 5)
        self.refused(EXAMPLE_TEXT.replace("\n", "\n\n"), 1)
        self.refused(EXAMPLE_TEXT.replace("\n", "\r\n"), 0)
        self.refused(EXAMPLE_TEXT.replace("\n", "\r"), 0)
        self.refused(EXAMPLE_TEXT.replace("\n", "; "), 0)
        for sign in ("\v", "\f", "\x1c", "\x85", "\u2028"):
            self.refused(EXAMPLE_TEXT.replace("\n", sign), 0)
            self.refused("read a 5 0..9\nkeep 0 1" + sign + "\nout 1", 1)

    def test_signs_otherwise(self):
        lines = EXAMPLE_TEXT.split("\n")
        for at, line in enumerate(lines):
            for other in (" " + line, line + " ", line.replace(" ", "  ", 1), line.replace(" ", "\t", 1), line.upper(),
                          line.capitalize(), line + " 0" * 9, line[:-1] if at != 3 else line[:-2], line.replace(" ", "", 1),
                          line + "\r", "+" + line, line + "#"):
                self.refused("\n".join(lines[:at] + [other] + lines[at + 1:]), at)

    def test_numbers_otherwise(self):
        for line in ("read a 05 0..9", "read a +5 0..9", "read a 5 00..9", "read a 5 -0..9", "read a 5 0..09", "read a 5 0..+9",
                     "read a 5 0...9", "read a 5 0.9", "read a 5 0..", "read a 5 ..9", "read a 5 0..9..9", "read a 5 0 ..9",
                     "read a 5 0..9,0..9", "read a 5 0..9 ", "read a 5", "read a", "read", "read a 5 9..0", "read a 201 0..9",
                     "read a -1 0..9", "read a 5 0..1000000001", "read a 5 0..1" + "0" * 60, "read a 5 0..1_0",
                     "read a 5 0..\u0663", "read A 5 0..9", "read a1 5 0..9", "read abcdefghi 5 0..9", "read  5 0..9",
                     "read a 5 0..9 0..9 0..9 0..9 0..9", "read a 5 0..9.0", "read a 5 0x1..9", "read a  5 0..9",
                     "read a 1" + "0" * 3000 + " 0..9", "read a 5 0..9 x"):
            self.refused(line + "\nout 0", 0)

    def test_nodes_otherwise(self):
        read = "read a 60 0..9 -5..5\n"
        for line in ("map 0", "map", "map 0 ", "map 0 @2", "map 0 @-1", "map 0 @00", "map 0 @", "map 0 was", "map 1 @0",
                     "map -1 @0", "map 0 (plus @0 1", "map 0 plus @0 1", "map 0 (plus @0)", "map 0 (plus @0 1 2)",
                     "map 0 ( plus @0 1)", "map 0 (plus @0 1 )", "map 0 (plus  @0 1)", "map 0 (plus @0 1))", "map 0 (@0)",
                     "map 0 ((plus @0 1))", "map 0 (PLUS @0 1)", "map 0 (power @0 1)", "map 0 ()", "map 0 (", "map 0 )",
                     "map 0 (plus @0 1)(plus @0 1)", "map 0 1000000001", "map 0 @0 @0 @0 @0 @0 @0 @0 @0 @0", "map 0 --1",
                     "map 0 (at 0)", "map 0 (plus (plus (plus (plus (plus 1 1) 1) 1) 1) 1)", "map 0 " + "(" * 3000,
                     "map 0 " + "(plus " * 600 + "1" + " 1)" * 600, "map 0 1.5", "map 0 -", "map 0 -0", "map 0 (over 1 -0)",
                     "keep 0", "keep 0 1 1", "keep 0 @2", "keep 0 was", "keep 2 1", "keep 0 (less @1 0) ",
                     "carry 0 0", "carry 0 was 0", "carry 0 @0 0", "carry 0 1000000001 was", "carry 0 0 was was",
                     "carry 0 0 (was)", "carry 0 0 Was", "carry 1 0 was", "carry 0 -0 was",
                     "sort 0", "sort 0 0", "sort 0 :up", "sort 0 0:", "sort 0 0:UP", "sort 0 0:up 0:down", "sort 0 2:up",
                     "sort 0 0:up:up", "sort 0 0 up", "sort 0 up:0", "sort 0 0: up", "sort 0 00:up", "sort 0 0:up ",
                     "gather 0", "gather 0 0", "gather 0 3", "gather 0 1 count:0", "gather 0 1 sum", "gather 0 1 sum:",
                     "gather 0 1 sum:2", "gather 0 1 total:1", "gather 0 1 sum:1:1", "gather 0 -1 count", "gather 0 1 count ",
                     "gather 0 1 count count count count count", "gather 0 1 :", "gather 0 01 count",
                     "look 0 0 0", "look 0 0 0 0 0", "look 0 0 2 0", "look 0 0 0 2", "look 0 1 0 0", "look 0 0 0 x",
                     "both 0", "both 0 0 0", "both 0 1", "both 0 00", "beside 0", "beside 0 1", "beside 0 0 0",
                     "first 0", "first 0 401", "first 0 -1", "first 0 1 1", "first 0 +1", "first 1 1", "first 0 x",
                     "read a 5 0..9", "x 0", "mapp 0 @0", "sorted 0 0:up", "node 0", "0 map @0", ":", "()", "@0", "was"):
            self.refused(read + line + "\nout 1", 1)
            self.refused(read + line, 1)

    def test_what_is_too_much(self):
        self.refused("\n".join(["read a 200 0..9", "both 0 0", "both 1 0", "out 2"]), 2)
        self.refused("\n".join(["read a 5 0..9 0..9 0..9 0..9", "beside 0 0", "beside 1 0", "out 2"]), 2)
        self.refused("\n".join(["read a 5 0..9 0..9"] + ["sort 0 0:up"] * 4 + ["out 4"]), 4)
        ten = ["read a 5 0..9"] + ["keep 0 1"] * 9
        self.assertEqual(len(read_program("\n".join(ten + ["out 9"]))[0]), 10)
        self.refused("\n".join(ten + ["keep 0 1", "out 10"]), 10)
        self.refused("\n".join(ten), 10)
        self.refused("\n".join(["keep 0 1", "out 0"]), 0)

    def test_of_anything(self):
        for thing in ANYTHING:
            if isinstance(thing, str):
                self.refused(thing, 0)
                self.refused("read a 5 0..9\n" + thing, 1)
            else:
                self.refused(thing, 0)
                self.refused((EXAMPLE_TEXT, thing), 0)
        self.refused([EXAMPLE_TEXT], 0)
        self.refused(EXAMPLE_TEXT.encode(), 0)
        self.refused(tuple(EXAMPLE_TEXT.split("\n")), 0)

    def test_texts_a_sign_aside(self):
        """Each text is of one program at most; a wrong line is told wherever it stands."""
        chance = Random(33)
        signs = " \n0123456789-:@().abcdefghijklmnopqrstuvwxyzA"
        read = refused = 0
        for program in many_programs(250, 32):
            whole = program_text(program)
            for _ in range(12):
                at = chance.randrange(len(whole) + 1)
                text = chance.choice((whole[:at] + chance.choice(signs) + whole[at:], whole[:at] + whole[at + 1:],
                                      whole[:at] + chance.choice(signs) + whole[at + 1:],
                                      whole[:at] + whole[at + 1:at + 2] + whole[at:at + 1] + whole[at + 2:]))
                try:
                    told = read_program(text)
                except NoText as caught:
                    self.assertEqual(caught.line, first_wrong(text), text)
                    refused += 1
                else:
                    self.assertTrue(is_program(told))
                    self.assertEqual(program_text(told), text)
                    read += 1
        self.assertGreater(read, 150)
        self.assertGreater(refused, 1000)


def first_wrong(text):
    """The first line with which, and the lines ahead, no program's text begins, found by trying ends."""
    lines = text.split("\n")
    for number in range(len(lines)):
        ahead = lines[:number + 1]
        if not any(is_text("\n".join(ahead + more)) for more in ([], ["out 0"])):
            return number
    return len(lines)


def is_text(text):
    try:
        return program_text(read_program(text)) == text
    except NoText:
        return False


if __name__ == "__main__":
    unittest.main()
