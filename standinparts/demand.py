"""Demands: how many units of a set of parts each made thing has at least."""

from standinparts.allowances import Allowances
from standinparts.errors import BadAllowances, BadDate, BadList, TooMany
from standinparts.lists import PartsList
from standinparts.words import is_date

MOST_PARTS = 10


def asked_by(parts_list, allowances, date):
    """For each place the tuple (word, candidates, number, share), the plain part first.

    Where a place has no share, all of its units may be others than the plain part.
    """
    rows = []
    for word, plain, number, share in parts_list.places():
        rows.append((word, allowances(plain, date), number, number if share is None else share))
    return rows


def candidates_of(asked):
    """The parts that fit somewhere, ascending."""
    return sorted(set([part for _, candidates, _, _ in asked for part in candidates]))


def needs_of(asked):
    """The units that are needed, by the ascending tuple of the parts that they may be.

    A place needs number less share units that are the plain part, and share units
    that are any candidate. So the demand on a set of parts is the sum of the needs
    whose parts are all in it, and equal demands have equal needs.
    """
    needs = {}
    for _, candidates, number, share in asked:
        plain = (candidates[0],)
        others = tuple(sorted(set(candidates)))
        needs[plain] = needs.get(plain, 0) + number - share
        needs[others] = needs.get(others, 0) + share
    return {parts: units for parts, units in needs.items() if units > 0}


def demands_on(parts, needs):
    """The demands on all sets of parts, each at its number: the sum of 1 << k for each parts[k] in it."""
    alone = [0 for _ in range(1 << len(parts))]
    for needed, units in needs.items():
        if all([part in parts for part in needed]):
            number = sum([1 << at for at in range(len(parts)) if parts[at] in needed])
            alone[number] = units
    # What stands at a set alone is added to all sets around it, part by part. Each time the sets without the part are
    # put ahead of those with it, so that the next part is the one that parts even numbers from odd ones; behind all
    # parts each set is at its number again.
    demands = list(alone)
    for _ in parts:
        without = demands[0::2]
        added = [less + more for less, more in zip(without, demands[1::2])]
        demands = [*without, *added]
    return demands


def numbered_sets(parts):
    """All sets of ascending parts, in their order, as tuples (number, set): the number as above."""
    found = []
    layer = [(0, 0, ())]
    while len(layer) > 0:
        found.extend([(number, chosen) for number, _, chosen in layer])
        layer = [(number + (1 << k), k + 1, (*chosen, parts[k]))
                 for number, begin, chosen in layer for k in range(begin, len(parts))]
    return found


class Demand:
    """The demands of a list at a date. It never changes."""

    def __init__(self, parts_list, allowances, date):
        if not isinstance(parts_list, PartsList):
            raise BadList(parts_list)
        if not isinstance(allowances, Allowances):
            raise BadAllowances(allowances)
        if not is_date(date):
            raise BadDate(date)
        asked = asked_by(parts_list, allowances, date)
        self._parts = tuple(candidates_of(asked))
        if len(self._parts) > MOST_PARTS:
            raise TooMany(MOST_PARTS)
        self._needs = needs_of(asked)

    def __call__(self, parts):
        """The demand on the parts of a tuple or list."""
        return sum([units for needed, units in self._needs.items() if all([part in parts for part in needed])])

    def parts(self):
        """The parts that fit somewhere, ascending."""
        return list(self._parts)

    def table(self):
        """The demands above 0 by sets of the parts that fit somewhere, in their order."""
        demands = demands_on(self._parts, self._needs)
        return {chosen: demands[number] for number, chosen in numbered_sets(self._parts) if demands[number] > 0}

    def __eq__(self, other):
        return isinstance(other, Demand) and self._needs == other._needs

    def __le__(self, other):
        if not isinstance(other, Demand):
            return NotImplemented
        # Parts that do not fit here add nothing to this demand, and take nothing from the other one.
        lows = demands_on(self._parts, self._needs)
        highs = demands_on(self._parts, other._needs)
        return all([low <= high for low, high in zip(lows, highs)])
