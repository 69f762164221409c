"""Stocks: how many units there are of parts."""

from standinparts.errors import BadCount, BadStock
from standinparts.words import is_integer, is_word

MOST_COUNT = 10 ** 30


def is_count(value):
    """Whether any value is a number of units that a stock may have."""
    return is_integer(value, 0, MOST_COUNT)


class Stock:
    """Units of parts. Parts that are not there have no units."""

    def __init__(self, counts=None):
        if counts is None:
            given = {}
        elif isinstance(counts, Stock):
            given = counts._counts
        elif isinstance(counts, dict):
            given = counts
        else:
            raise BadStock(counts)
        for part, count in given.items():
            if not is_word(part) or not is_count(count):
                raise BadCount(part)
        # Only parts with units are kept: so equal stocks have equal dicts.
        self._counts = {part: count for part, count in given.items() if count > 0}

    def __getitem__(self, at):
        return self._counts.get(at, 0) if is_word(at) else 0

    def __setitem__(self, at, worth):
        if not is_word(at) or not is_count(worth):
            raise BadCount(at)
        if worth > 0:
            self._counts[at] = worth
        else:
            self._counts.pop(at, None)

    def parts(self):
        """The parts of which there are units, ascending."""
        return sorted(set(self._counts))

    def __len__(self):
        return len(self._counts)

    def __iter__(self):
        raise TypeError("a stock cannot be iterated")

    def total(self, parts):
        """The units of some parts together, each part counted once."""
        once = {part: True for part in parts}
        return sum([self._counts.get(part, 0) for part in once])

    def copy(self):
        """A stock with the same units that goes on by itself."""
        return Stock(self)

    def __add__(self, other):
        if not isinstance(other, Stock):
            raise BadStock(other)
        # Ascending, so that the least part is told if the sums are no counts.
        parts = sorted(set(self.parts() + other.parts()))
        return Stock({part: self[part] + other[part] for part in parts})

    def __sub__(self, other):
        if not isinstance(other, Stock):
            raise BadStock(other)
        parts = sorted(set(self.parts() + other.parts()))
        return Stock({part: self[part] - other[part] for part in parts})

    def __le__(self, other):
        if not isinstance(other, Stock):
            raise BadStock(other)
        return all([count <= other[part] for part, count in self._counts.items()])

    def __eq__(self, other):
        return isinstance(other, Stock) and self._counts == other._counts
