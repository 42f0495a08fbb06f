"""The errors of the program."""


def _copied(thing):
    """A thing as it is now: what is done to a list or dict in it later does not reach the copy."""
    if isinstance(thing, tuple):
        return tuple([_copied(part) for part in thing])
    if isinstance(thing, list):
        return [_copied(part) for part in thing]
    if isinstance(thing, dict):
        return {key: _copied(part) for key, part in thing.items()}
    return thing


class RowsError(ValueError):
    """What is handed in is not what it must be, or comes at the wrong time."""


class NoProgram(RowsError):
    """What is handed in is no program."""


class NoTables(RowsError):
    """What is handed in are no tables of the program, no rows, or no name of a table."""


class NoWays(RowsError):
    """What is handed in are no ways of the program."""


class NoPass(RowsError):
    """What is handed in is no pass, or no part, by the ways."""


class NoPlan(RowsError):
    """What is handed in is no plan in the room."""


class NoCounts(RowsError):
    """What is handed in are no counts of the nodes."""


class NoLengths(RowsError):
    """What is handed in are no lengths of runs."""


class NoNumber(RowsError):
    """What is handed in is no whole number within its bounds."""


class TooWide(RowsError):
    """The program has more closed sets of parts than are looked through."""


class NoState(RowsError):
    """What is handed in is no state of the run."""


class Over(RowsError):
    """There is no further turn."""


class Early(RowsError):
    """The outcome is not known yet."""


class Unfit(RowsError):
    """The tables would not be tables of the program of this name."""

    def __init__(self, name):
        RowsError.__init__(self, "tables that do not fit a program")
        self.name = name


class NoText(RowsError):
    """The text is none from the line of this number on."""

    def __init__(self, line):
        RowsError.__init__(self, "a text that is none")
        self.line = line


class Falls(ArithmeticError):
    """An op or a sum falls, by this word."""

    def __init__(self, word):
        ArithmeticError.__init__(self, "an op or a sum that falls")
        self.word = word


class NoNode(IndexError):
    """The program has no such node."""

    def __init__(self, node):
        IndexError.__init__(self, "a node that the program does not have")
        self.node = _copied(node)


class Overfull(OverflowError):
    """The room would hold so many words, more than its most."""

    def __init__(self, many):
        OverflowError.__init__(self, "more words than the room has place for")
        self.many = many


class Missing(KeyError):
    """There is no file, table or program of this name."""

    def __init__(self, name):
        KeyError.__init__(self, "a name that nothing has")
        self.name = _copied(name)


class AtEnd(LookupError):
    """The file of this name has no record of such a number."""

    def __init__(self, name):
        LookupError.__init__(self, "a number behind the last record")
        self.name = name


class Busy(RuntimeError):
    """An ask is on."""
