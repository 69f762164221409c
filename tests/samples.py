"""Small lists, books and stocks, drawn by a chance that is the same each time."""

from standinparts.allowances import Allowances
from standinparts.eithers import Eithers
from standinparts.lists import PartsList


def some_book(chance, parts, many):
    """A book of at most so many allowances among the parts, from dates 0 to 3 on."""
    rows = []
    for _ in range(chance.randrange(many + 1)):
        part, plain = chance.sample(parts, 2)
        since = chance.randrange(4)
        row = (part, plain, since, chance.choice([None, since, since + 1, since + 3]))
        if row not in rows:
            rows.append(row)
    return Allowances(rows, through=chance.random() < 0.5)


def some_list(chance, parts, places, units):
    """A list of at most so many places of at most so many units."""
    rows = []
    for k in range(chance.randrange(1, places + 1)):
        number = chance.randrange(1, units + 1)
        share = chance.choice([None, chance.randrange(number + 1), chance.randrange(number + 1)])
        rows.append(("xyzuvw"[k], chance.choice(parts), number, share))
    return PartsList(rows)


def some_counts(chance, parts, highest):
    """A dict with a number of units for each part."""
    return {part: chance.randrange(highest + 1) for part in parts}


def wide_book(many):
    """A book that lets so many other parts stand for the part a."""
    return Allowances([("p" + letter, "a", 0, None) for letter in "abcdefghijkl"[:many]])


def some_eithers(chance, parts, many, units):
    """At most so many either-ors behind a list of at most two places, with options of at most two places."""
    base = some_list(chance, parts, 2, units)
    entries = []
    for k in range(chance.randrange(many + 1)):
        options = []
        for _ in range(2):
            rows = some_list(chance, parts, 2, units).places()
            options.append(PartsList([("klmn"[2 * k + at], *row[1:]) for at, row in enumerate(rows)]))
        entries.append(("ef"[k], *options))
    return Eithers(base, entries)


def some_menu(chance, allowances, parts, many):
    """A menu of at most so many allowances beside a book, or None where none was found."""
    rows = [row for row in some_book(chance, parts, many).rows() if row not in allowances]
    chance.shuffle(rows)
    return rows or None


def some_events(chance, parts_list, parts, many, days):
    """Events of a list, at days that grow by at most so many."""
    events, day = [], chance.randrange(days + 1)
    for _ in range(many):
        day += chance.choice([0, 0, chance.randrange(days + 1)])
        kind = chance.choice(["come", "come", "come", "ask", "ask", "order"])
        name = {"come": parts, "ask": parts_list.words(), "order": [None]}[kind]
        events.append((kind, chance.choice(name), day) if kind != "order" else (kind, day))
    return events


def some_rush(chance, parts_list, parts, comings, asks, days):
    """So many units that come, and behind them asks, and perhaps an order, at days that grow by at most so many."""
    events, day = [("come", chance.choice(parts), 0) for _ in range(comings)], 0
    for _ in range(asks):
        day += chance.choice([0, chance.randrange(days + 1)])
        events.append(("ask", chance.choice(parts_list.words()), day))
    return events + [("order", day)] * chance.randrange(2)


def some_orders(chance, words, parts):
    """Orders of some of the parts for some of the words."""
    return {word: tuple(chance.sample(parts, chance.randrange(len(parts) + 1)))
            for word in words if chance.random() < 0.7}


def without_shares(parts_list):
    """The list with the same places without shares."""
    return PartsList([(*row[:3], None) for row in parts_list.places()])


def early_book(chance, parts, many, last=2):
    """A book of at most so many allowances among the parts, all dates of which are at most the last one."""
    rows = []
    for _ in range(chance.randrange(many + 1)):
        part, plain = chance.sample(parts, 2)
        since = chance.randrange(last + 1)
        row = (part, plain, since, chance.choice([None, None, chance.randrange(since, last + 1)]))
        if row not in rows:
            rows.append(row)
    return Allowances(rows, through=chance.random() < 0.5)


def plain_list(chance, parts, places, units=1):
    """A list of at most so many places without shares, of at most so many units."""
    return without_shares(some_list(chance, parts, places, units))


def some_rule(chance, words, parts, kind=None):
    """A tuple (kind, orders) for a rule; orders may lack parts and words, and have parts and words that are none."""
    return kind or chance.choice(["row", "plain", "eldest"]), some_orders(chance, [*words, "none"], parts + "q")


def put_off(allowances, days):
    """The book with all dates so many days later."""
    return Allowances([(part, plain, since + days, None if till is None else till + days)
                       for part, plain, since, till in allowances.rows()], through=allowances.through)


def renamed_book(allowances, names):
    """The book with other names for the parts."""
    return Allowances([(names[part], names[plain], since, till) for part, plain, since, till in allowances.rows()],
                      through=allowances.through)


def renamed_list(parts_list, names, words):
    """The list with other names for the parts and other words for the places."""
    return PartsList([(words[word], names[plain], number, share)
                      for word, plain, number, share in parts_list.places()])
