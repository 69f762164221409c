"""Either-ors: lists of which each made thing has the places of one option or those of the other one."""

from math import comb

from standinparts.demand import MOST_PARTS, asked_by, candidates_of, demands_on, needs_of, numbered_sets
from standinparts.errors import BadChoice, BadEither, BadNumber, TooMany
from standinparts.lists import PartsList
from standinparts.words import is_integer, is_word

MOST_EITHERS = 2
MOST_MADE = 200
MOST_ROWS = 5000


def is_either(value):
    """Whether any value is an either-or: (word, first, second)."""
    if not isinstance(value, tuple) or len(value) != 3:
        return False
    word, first, second = value
    return is_word(word) and isinstance(first, PartsList) and isinstance(second, PartsList)


def check_eithers(base, eithers):
    """Raises the error of the first thing that is wrong about a base and its either-ors."""
    if not isinstance(base, PartsList) or not isinstance(eithers, (list, tuple)) or len(eithers) > MOST_EITHERS:
        raise BadEither(None)
    words = []
    in_use = base.words()
    for index, entry in enumerate(eithers):
        if not is_either(entry) or entry[0] in words:
            raise BadEither(index)
        options = entry[1].words() + entry[2].words()
        if any([word in in_use for word in options]):
            raise BadEither(index)
        words.append(entry[0])
        in_use.extend(options)


class Eithers:
    """A base list with either-ors. It never changes."""

    def __init__(self, base, eithers):
        check_eithers(base, eithers)
        self._base = base
        self._eithers = tuple([(word, first, second) for word, first, second in eithers])

    def words(self):
        """The words of the either-ors in order."""
        return [word for word, _, _ in self._eithers]

    def __len__(self):
        return len(self._eithers)

    def __eq__(self, other):
        return isinstance(other, Eithers) and self._base == other._base and self._eithers == other._eithers

    def combinations(self):
        """All choices, ascending."""
        choices = [()]
        for _ in self._eithers:
            choices = [(*choice, option) for choice in choices for option in (0, 1)]
        return choices

    def list_of(self, choice):
        """The list of a choice: the base with the chosen options behind it."""
        if not isinstance(choice, tuple) or len(choice) != len(self._eithers):
            raise BadChoice(choice)
        if not all([is_integer(option, 0, 1) for option in choice]):
            raise BadChoice(choice)
        chosen = self._base
        for option, entry in zip(choice, self._eithers):
            chosen = chosen + entry[1 + option]
        return chosen


def check_number(many):
    """Raises BadNumber for any value that is no number of things with either-ors."""
    if not is_integer(many, 0, MOST_MADE):
        raise BadNumber(many)


def asked_places(eithers, allowances, date):
    """What the places of each choice's list ask [asked_by], and all candidates, ascending."""
    lists = [eithers.list_of(choice) for choice in eithers.combinations()]
    asked = [asked_by(parts_list, allowances, date) for parts_list in lists]
    parts = candidates_of([place for places in asked for place in places])
    if len(parts) > MOST_PARTS:
        raise TooMany(MOST_PARTS)
    return asked, parts


def asked_sets(eithers, allowances, date):
    """For all sets of candidates, in their order, (parts, demands): a demand for each choice's list."""
    asked, parts = asked_places(eithers, allowances, date)
    tables = [demands_on(parts, needs_of(places)) for places in asked]
    return [(chosen, tuple([demands[number] for demands in tables])) for number, chosen in numbered_sets(parts)]


def held_sets(sets, stock):
    """The sets of asked_sets that can be the first one with too few units, as (parts, demands, units).

    Where a set ahead has the same demands and no more units, it has too few units
    whenever the set behind has.
    """
    fewest = {}
    found = []
    for parts, demands in sets:
        units = stock.total(parts)
        if demands not in fewest or units < fewest[demands]:
            fewest[demands] = units
            found.append((parts, demands, units))
    return found


def rows_of(many, length):
    """All rows of numbers with the sum many, ascending; raises TooMany if they are too many."""
    if comb(many + length - 1, length - 1) > MOST_ROWS:
        raise TooMany(MOST_ROWS)
    rows = [()]
    for _ in range(length - 1):
        rows = [(*row, number) for row in rows for number in range(many - sum(row) + 1)]
    return [(*row, many - sum(row)) for row in rows]


def is_short(row, held):
    """Whether a set of held_sets has fewer units than a row of numbers asks."""
    _, demands, units = held
    return units < sum([number * demand for number, demand in zip(row, demands)])


def first_short(row, held):
    """The first of held_sets with fewer units than a row of numbers asks, or None."""
    for one in held:
        if is_short(row, one):
            return one
    return None


def first_row(rows, held):
    """The first row of numbers for which no set has too few units, or None."""
    short = None
    for row in rows:
        # Rows side by side mostly lack the same parts, so that seldom all sets are looked at.
        if short is None or not is_short(row, short):
            short = first_short(row, held)
            if short is None:
                return row
    return None


def numbers_for(eithers, allowances, date, stock, many):
    """The first row of numbers, by choices, by which so many things can be made, or None."""
    check_number(many)
    sets = asked_sets(eithers, allowances, date)
    return first_row(rows_of(many, 1 << len(eithers)), held_sets(sets, stock))


def totals_of(parts, stock):
    """The units of all sets of parts, each at its number [demands_on]."""
    totals = [0]
    for part in parts:
        count = stock[part]
        totals = totals + [units + count for units in totals]
    return totals


def limits_of(asked, parts, stock):
    """What sets of parts allow: tuples (least, demand, first, last, units), the ones that allow least ahead.

    demand is that of the first choice's list, first and last are what it grows by with the second option of the
    first of two either-ors and of the last one. Demands are sums over places, so that these tell the demands of all
    choices; and it does not matter in which things second options stand together, only in how many each stands.
    """
    # The fourth choice takes both second options, so that its demands follow from the others.
    tables = [demands_on(parts, needs_of(places)) for places in asked[:3]]
    fewest = {}
    for demands, units in zip(zip(*tables), totals_of(parts, stock)):
        if demands not in fewest or units < fewest[demands]:
            fewest[demands] = units
    limits = []
    for demands, units in fewest.items():
        demand = demands[0]
        first = demands[2] - demand if len(demands) > 2 else 0
        last = demands[1] - demand if len(demands) > 1 else 0
        # So many things can be made at the most, whatever is chosen, if the set is asked for at all.
        least = units // max(1, demand + min(0, first) + min(0, last))
        limits.append((least, demand, first, last, units))
    return sorted(set(limits))


def is_room(many, seconds, limits):
    """Whether so many things can be made, so many of them with the second option of the first of two either-ors."""
    # How many things may have the last either-or's second option, so far as sets were looked at.
    lowest = 0
    highest = many
    for _, demand, first, last, units in limits:
        left = units - many * demand - seconds * first
        if last > 0:
            highest = min(int(left // last), highest)
        elif last < 0:
            lowest = max(int(-(left // -last)), lowest)
        elif left < 0:
            return False
        if lowest > highest:
            return False
    return True


def can_make(many, length, limits):
    """Whether so many things can be made; length is the number of choices."""
    for seconds in range(many + 1 if length > 2 else 1):
        if is_room(many, seconds, limits):
            return True
    return False


def most_looked_at(length):
    """The greatest number of things, 200 at the most, that has not too many rows of numbers."""
    many = MOST_MADE
    while comb(many + length - 1, length - 1) > MOST_ROWS:
        many -= 1
    return many


def most_of(eithers, allowances, date, stock):
    """How many things can be made at the most, but 200 for more."""
    asked, parts = asked_places(eithers, allowances, date)
    limits = limits_of(asked, parts, stock)
    length = len(asked)
    greatest = most_looked_at(length)
    if can_make(greatest, length, limits):
        if greatest < MOST_MADE:
            raise TooMany(MOST_ROWS)
        return greatest
    # What can be made can be made with one thing less, too: so the numbers in between are halved.
    low = 0
    high = greatest
    while high - low > 1:
        many = (low + high) // 2
        if can_make(many, length, limits):
            low = many
        else:
            high = many
    return low


def lack_paper(eithers, allowances, date, stock, many):
    """For each row of numbers, ascending, (row, parts) with the first set with too few units, or None."""
    check_number(many)
    sets = asked_sets(eithers, allowances, date)
    rows = rows_of(many, 1 << len(eithers))
    held = held_sets(sets, stock)
    if first_row(rows, held) is not None:
        return None
    return [(row, first_short(row, held)[0]) for row in rows]


def is_row_paper(row, held, value):
    """Whether any value is a tuple of a row and of a set of candidates with too few units for it.

    held has the tuples of held_sets for all sets, by their parts.
    """
    if not isinstance(value, tuple) or len(value) != 2:
        return False
    told, parts = value
    if not isinstance(told, tuple) or not all([is_integer(number, 0, MOST_MADE) for number in told]):
        return False
    if told != row or not isinstance(parts, tuple) or not all([is_word(part) for part in parts]):
        return False
    return parts in held and is_short(row, held[parts])


def is_lack_paper(eithers, allowances, date, stock, many, value):
    """Whether any value is a paper of lack."""
    check_number(many)
    sets = asked_sets(eithers, allowances, date)
    rows = rows_of(many, 1 << len(eithers))
    if not isinstance(value, list) or len(value) != len(rows):
        return False
    held = {parts: (parts, demands, stock.total(parts)) for parts, demands in sets}
    return all([is_row_paper(row, held, entry) for row, entry in zip(rows, value)])
