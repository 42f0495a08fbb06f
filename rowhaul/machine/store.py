"""The slow store: files of records by names, and how many words were moved."""

from rowhaul.errors import AtEnd, Missing, NoNumber
from rowhaul.words.wholes import is_several, is_whole


def is_file_name(thing):
    """Is it of the form of a name of a file?"""
    if not isinstance(thing, tuple) or len(thing) == 0:
        return False
    if thing[0] == "node":
        return len(thing) == 2 and is_whole(thing[1])
    if thing[0] not in ("run", "ahead") or len(thing) != 3:
        return False
    return is_part_like(thing[1]) and is_whole(thing[2])


def is_part_like(thing):
    """Is it a number and a word, as a part is?"""
    return is_several(thing, 2, 2) and is_whole(thing[0]) and isinstance(thing[1], str)


class Store:
    """Files by names. Reading and writing a record moves its words; nothing else moves any."""

    def __init__(self, files=()):
        self._rows = {name: list(rows) for name, rows in files}
        self._moved = 0

    def names(self):
        """The names of all files, rising."""
        return tuple(sorted(self._rows))

    def _check(self, name):
        """Refuse the name of no file. True is 1 as a key, so the form is looked at first."""
        if not is_file_name(name) or name not in self._rows:
            raise Missing(name)

    def rows_in(self, name):
        """The records of a file."""
        self._check(name)
        return tuple(self._rows[name])

    def how_many(self, name):
        """How many records a file has."""
        self._check(name)
        return len(self._rows[name])

    def read(self, name, number):
        """The record of this number."""
        self._check(name)
        rows = self._rows[name]
        if not is_whole(number) or number < 0:
            raise NoNumber("no number of a record")
        if number >= len(rows):
            raise AtEnd(name)
        self._moved += len(rows[number])
        return rows[number]

    def write(self, name, record):
        """Put a record behind all of a file; a first one makes the file."""
        self._rows.setdefault(name, []).append(record)
        self._moved += len(record)

    def take_off(self, name):
        """Let there be no file of this name any more."""
        self._check(name)
        del self._rows[name]

    def moved(self):
        """How many words were read and written."""
        return self._moved

    def files(self):
        """Each file's name and records, rising."""
        return tuple([(name, tuple(self._rows[name])) for name in sorted(self._rows)])

    def __eq__(self, other):
        if not isinstance(other, Store):
            return False
        return self._rows == other._rows

    def __len__(self):
        return len(self._rows)
