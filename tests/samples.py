"""Small lists, books and stocks, drawn by a chance that is the same each time."""

from standinparts.allowances import Allowances
from standinparts.lists import PartsList


def some_book(chance, parts, many):
    """A book of at most so many allowances among the parts, from dates 0 to 3 on."""
    rows = []
    for _ in range(chance.randrange(many + 1)):
        part, plain = chance.sample(parts, 2)
        since = chance.randrange(4)
        row = (part, plain, since, chance.choice([None, since, since + 1, since + 3]))
        if row not in rows:
            rows.append(row)
    return Allowances(rows, through=chance.random() < 0.5)


def some_list(chance, parts, places, units):
    """A list of at most so many places of at most so many units."""
    rows = []
    for k in range(chance.randrange(1, places + 1)):
        number = chance.randrange(1, units + 1)
        share = chance.choice([None, chance.randrange(number + 1), chance.randrange(number + 1)])
        rows.append(("xyzuvw"[k], chance.choice(parts), number, share))
    return PartsList(rows)


def some_counts(chance, parts, highest):
    """A dict with a number of units for each part."""
    return {part: chance.randrange(highest + 1) for part in parts}


def wide_book(many):
    """A book that lets so many other parts stand for the part a."""
    return Allowances([("p" + letter, "a", 0, None) for letter in "abcdefghijkl"[:many]])
