"""Rules of picking: which of two units a place prefers."""

from standinparts.errors import BadRule
from standinparts.words import is_word

KINDS = ("row", "plain", "eldest")


def is_order(value):
    """Whether any value is a tuple of unlike parts."""
    if not isinstance(value, tuple) or not all([is_word(part) for part in value]):
        return False
    return len(set(value)) == len(value)


class Rule:
    """A rule of a kind with orders of parts for words of places. It never changes."""

    def __init__(self, kind, orders=None):
        if not isinstance(kind, str) or kind not in KINDS:
            raise BadRule(kind)
        given = {} if orders is None else orders
        if not isinstance(given, dict):
            raise BadRule(orders)
        for word, parts in given.items():
            if not is_word(word) or not is_order(parts):
                raise BadRule(word)
        self.kind = kind
        self._orders = {word: parts for word, parts in given.items()}

    def order(self, word):
        """The order of the parts for a word, () if there is none."""
        return self._orders.get(word, ())

    def words(self):
        """The words that have an order, ascending."""
        return sorted(set(self._orders))

    def with_order(self, word, parts):
        """The rule with another order for a word."""
        if not is_word(word):
            raise BadRule(word)
        return Rule(self.kind, {**self._orders, word: parts})

    def rank(self, word, part):
        """A tuple that is less for lesser ranks of a part for a word."""
        order = self.order(word)
        return (0, order.index(part)) if part in order else (1, part)

    def place_of(self, place, unit):
        """A tuple that is less for units that a place prefers."""
        part, day = unit
        rank = self.rank(place[0], part)
        if self.kind == "eldest":
            return day, rank
        if self.kind == "plain":
            return (0 if part == place[1] else 1), rank, day
        return rank, day

    def __call__(self, place, one, other):
        """Whether a place prefers the first of two units to the other one."""
        return self.place_of(place, one) < self.place_of(place, other)

    def preferred_ahead(self, place, parts):
        """The list of some unlike parts, those ahead that a place prefers where all units came on one day."""
        places = [(self.place_of(place, (part, 0)), part) for part in parts]
        return [part for _, part in sorted(set(places))]

    def __eq__(self, other):
        return isinstance(other, Rule) and self.kind == other.kind and self._orders == other._orders

    @staticmethod
    def plainly():
        """The rule that prefers plain parts, without orders."""
        return Rule("plain")
