"""How far files are read."""

from rowhaul.errors import Missing


def rows_there(store, name):
    """How many records a file has: none where there is no such file, as it is made by its first one."""
    try:
        return store.how_many(name)
    except Missing:
        return 0


class Places:
    """Reads some files record by record. A key is a side and the name of a file."""

    def __init__(self, store, keys, reads):
        self._store = store
        self._places = {key: 0 for key in keys}
        for side, name, many in reads:
            if (side, name) in self._places:
                self._places[(side, name)] = many

    def has_more(self, key):
        """Is there a record that isn't read yet?"""
        return self._places[key] < rows_there(self._store, key[1])

    def take(self, key):
        """Read the next record."""
        record = self._store.read(key[1], self._places[key])
        self._places[key] += 1
        return record

    def rewind(self, key):
        """Begin again at the first record."""
        self._places[key] = 0

    def told(self):
        """How many records of each file are read, rising."""
        return tuple(sorted([(side, name, self._places[(side, name)]) for side, name in self._places]))
