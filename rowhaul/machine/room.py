"""The room: what is held, and how many words that is."""

from rowhaul.errors import Overfull
from rowhaul.plans.sizes import check_room


def words_in(records):
    """How many words some records have."""
    return sum([len(record) for record in records])


class Room:
    """Holds records by holders, and never more words than its most."""

    def __init__(self, most):
        check_room(most)
        self._most = most
        self._held = {}
        self._words = 0
        self._peak = 0

    def hold(self, holder, records):
        """Hold records in the place of what the holder held; no records at all let go."""
        many = self._words - words_in(self.held(holder)) + words_in(records)
        if many > self._most:
            raise Overfull(many)
        self._words = many
        self._peak = max(self._peak, many)
        if len(records) > 0:
            self._held[holder] = tuple(records)
        elif holder in self._held:
            del self._held[holder]

    def held(self, holder):
        """The records that a holder holds."""
        return self._held.get(holder, ())

    def holders(self):
        """Each holder that holds some, with its records, rising."""
        return tuple([(holder, self._held[holder]) for holder in sorted(self._held)])

    def words(self):
        """How many words are held."""
        return self._words

    def peak(self):
        """The most words that were ever held."""
        return self._peak
