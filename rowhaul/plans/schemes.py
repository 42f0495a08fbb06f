"""A program by its ways: its parts, what they read, what they make, what they hang on."""

from rowhaul.knowing.ranges import needed_in
from rowhaul.programs.shapes import inputs_in, mosts_in, widths_in
from rowhaul.words.wholes import is_several, is_whole

PART_WORDS = ("step", "cast", "merge", "left", "right", "meet", "block", "both", "beside")

_DRIVERS = ("merge", "meet", "block", "both", "beside")
_OF_BOTH_INPUTS = ("block", "both", "beside")

# The words of the parts of a sort or a look, by its way, as they rise.
_WORDS_BY_WAY = {
    "half": ("cast", "merge"),
    "quarter": ("cast", "merge"),
    "kept": ("step",),
    "blocked": ("block",),
    "met": ("left", "meet", "merge", "right"),
}


def is_driver(part):
    """Is a part one that reads rows for all others of its pass?"""
    return part[1] in _DRIVERS


class Scheme:
    """The parts of a program by ways. What is handed in is a program and ways of it."""

    def __init__(self, program, ways):
        nodes, outputs = program
        self.nodes = nodes
        self.outputs = outputs
        self.widths = widths_in(nodes)
        self.mosts = mosts_in(nodes)
        self.chosen = {k: word for k, word in ways}
        self.parts = tuple([(k, word) for k in needed_in(program) for word in self._words_of(k)])

    def _words_of(self, k):
        """The words of the parts of a node, as they rise. A sort of which no way is told is an idle one."""
        word = self.nodes[k][0]
        if k in self.chosen:
            return _WORDS_BY_WAY[self.chosen[k]]
        if word == "read":
            return ()
        return (word,) if word in ("both", "beside") else ("step",)

    def is_part(self, thing):
        """Is it a part?"""
        return is_several(thing, 2, 2) and is_whole(thing[0]) and thing in self.parts

    def maker_of(self, k):
        """The part that makes a node, or None: nothing makes a read."""
        words = self._words_of(k)
        if len(words) == 0:
            return None
        return (k, "merge" if "merge" in words else words[0])

    def made_in(self, one):
        """The nodes that some parts make."""
        return [part[0] for part in one if self.maker_of(part[0]) == part]

    def stream_of(self, part):
        """The node of which each record comes to a part, or None of a driver."""
        k, word = part
        if word == "right":
            return self.nodes[k][2]
        return None if is_driver(part) else self.nodes[k][1]

    def kept_of(self, part):
        """The node that a kept look's step holds as its table, or None."""
        k, word = part
        return self.nodes[k][2] if word == "step" and self.nodes[k][0] == "look" else None

    def read_by(self, part):
        """The nodes of which a part needs the rows: its stream, its kept table, or its inputs."""
        if part[1] in _OF_BOTH_INPUTS:
            return inputs_in(self.nodes[part[0]])
        return tuple([k for k in (self.stream_of(part), self.kept_of(part)) if k is not None])

    def casters_of(self, part):
        """The parts whose runs a part reads, in the order in which it reads them."""
        k, word = part
        if word == "merge":
            return ((k, "cast" if self.nodes[k][0] == "sort" else "meet"),)
        return ((k, "left"), (k, "right")) if word == "meet" else ()

    def hung_on(self, part):
        """The parts that a part hangs on, rising."""
        makers = [self.maker_of(k) for k in self.read_by(part)]
        told = list(self.casters_of(part)) + [maker for maker in makers if maker is not None]
        return tuple(sorted(set(told)))
