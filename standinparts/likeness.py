"""Likeness: of which lists equally many things can be made from all stocks."""

from standinparts.demand import MOST_PARTS, Demand, numbered_sets
from standinparts.errors import TooMany
from standinparts.stocks import Stock


def parts_of(one, other):
    """The candidates of two demands, ascending."""
    return sorted(set(one.parts() + other.parts()))


def check_parts(one, other):
    """Raises TooMany for too many candidates of two demands."""
    if len(parts_of(one, other)) > MOST_PARTS:
        raise TooMany(MOST_PARTS)


def is_under(one, other):
    """Whether from each stock the first can be made at least as often as the second."""
    check_parts(one, other)
    return one <= other


def are_alike(one, other):
    """Whether from each stock both can be made equally often."""
    check_parts(one, other)
    return one == other


def greater_set(one, other):
    """The first set of parts of which the first demand is greater, or None."""
    check_parts(one, other)
    for _, parts in numbered_sets(parts_of(one, other)):
        if one(parts) > other(parts):
            return parts
    return None


def evidence(one, other):
    """A stock from which the second can be made once and the first cannot, or None."""
    greater = greater_set(one, other)
    if greater is None:
        return None
    # Each part gets as many units as the second demand grows by when the part joins those ahead of it. A part adds
    # the more to a demand the more parts are there, so that no set gets too few for the second list; and the greater
    # set, as it stands ahead, gets just the second demand.
    rest = [part for part in parts_of(one, other) if part not in greater]
    counts = {}
    ahead = []
    for part in [*greater, *rest]:
        counts[part] = other([*ahead, part]) - other(ahead)
        ahead.append(part)
    return Stock(counts)


def alike_dates(one, its_allowances, other, other_allowances):
    """The tuples (date, truth): whether two lists are alike from a date on, up to the next one."""
    told = []
    for date in sorted(set(its_allowances.dates() + other_allowances.dates())):
        told.append((date, are_alike(Demand(one, its_allowances, date), Demand(other, other_allowances, date))))
    return told


def first_unlike(one, its_allowances, other, other_allowances):
    """The first date at which two lists are not alike, or None."""
    for date, truth in alike_dates(one, its_allowances, other, other_allowances):
        if not truth:
            return date
    return None
