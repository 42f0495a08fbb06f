"""What merges of neighbours move at the least."""

from rowhaul.errors import NoLengths
from rowhaul.words.wholes import check_from, is_from, is_several

_MOST_RUNS = 16
_MOST_LENGTH = 400
_LEAST_FAN = 2
_MOST_FAN = 10 ** 6


def check_lengths(lengths, fan):
    """Refuse what are no lengths of runs, then what is no fan."""
    if not is_several(lengths, 0, _MOST_RUNS):
        raise NoLengths("no lengths of runs")
    if not all([is_from(part, 1, _MOST_LENGTH) for part in lengths]):
        raise NoLengths("no lengths of runs")
    check_from(fan, _LEAST_FAN, _MOST_FAN)


def place_of(a, b):
    """The key under which a table has the numbers of the runs a up to b."""
    return 1000 * a + b


def all_spans(many):
    """All a, b with 0 <= a < b <= many, shorter ones first."""
    return [(a, a + long) for long in range(1, many + 1) for a in range(many - long + 1)]


def least_costs(lengths, fan):
    """For runs a up to b how many at least are moved till one stands of them, till two, and on up to the fan."""
    costs = {}
    for a, b in all_spans(len(lengths)):
        costs[place_of(a, b)] = _span_costs(costs, lengths, fan, a, b)
    return costs


def _span_costs(costs, lengths, fan, a, b):
    """The costs of runs a up to b, by those of shorter spans."""
    if b - a == 1:
        return (0,)
    apart = []
    for many in range(2, min(fan, b - a) + 1):
        apart.append(min([split_cost(costs, a, h, b, many) for h in splits_of(a, b, many)]))
    return (min(apart) + sum(lengths[a:b]), *apart)


def splits_of(a, b, many):
    """The places h where runs a up to h can become one and runs h up to b one less than so many."""
    return [h for h in range(a + 1, b) if b - h >= many - 1]


def split_cost(costs, a, h, b, many):
    """What it costs that runs a up to h become one and runs h up to b one less than so many."""
    return costs[place_of(a, h)][0] + costs[place_of(h, b)][many - 2]


def least_moved(lengths, fan):
    """How many records are moved at the least till no more runs stand than the fan."""
    if len(lengths) <= fan:
        return 0
    return min(least_costs(lengths, fan)[place_of(0, len(lengths))])


def run_lengths(count, size):
    """The lengths of the runs that so many records make."""
    return tuple([min(size, count - first) for first in range(0, count, size)])


class Merges:
    """How many records are moved ahead at the least. What was asked once is kept, as it is asked again and again."""

    def __init__(self):
        self._told = {}

    def moved_of(self, count, size, fan):
        """How many are moved of so many records, cast by this size."""
        asked = (count, size, fan)
        if asked not in self._told:
            self._told[asked] = least_moved(run_lengths(count, size), fan)
        return self._told[asked]
