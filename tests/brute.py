"""The definitions of the document, done by trying all ways. Slow, and only for small things."""

from itertools import chain, combinations, combinations_with_replacement, product


def candidates(allowances, plain, date):
    """The set of the candidates, from the rows of the book."""
    found = {plain}
    while True:
        bases = found if allowances.through else {plain}
        more = {part for part, base, since, till in allowances.rows()
                if base in bases and since <= date and (till is None or date <= till)}
        if more <= found:
            return found
        found = found | more


def all_sets(parts):
    """All sets of parts as ascending tuples, those with fewer parts ahead, then ascending."""
    parts = sorted(parts)
    return list(chain.from_iterable(combinations(parts, size) for size in range(len(parts) + 1)))


def demand(parts_list, allowances, date, parts):
    """The demand on a set of parts, as point 7 tells it."""
    total = 0
    for word, plain, number, share in parts_list.places():
        if candidates(allowances, plain, date) <= set(parts):
            total += number
        elif plain in parts and share is not None:
            total += number - share
    return total


def fitting(parts_list, allowances, date):
    """All parts that are a candidate somewhere."""
    return sorted(set().union(*[candidates(allowances, place[1], date) for place in parts_list.places()]))


def made_things(parts_list, allowances, date):
    """All made things of a list."""
    ways = []
    for word, plain, number, share in parts_list.places():
        parts = sorted(candidates(allowances, plain, date))
        ways.append([(word, units) for units in combinations_with_replacement(parts, number)
                     if share is None or number - units.count(plain) <= share])
    return list(product(*ways))


def _uses(thing):
    units = sorted(chain.from_iterable(parts for _, parts in thing))
    return tuple(sorted((part, units.count(part)) for part in set(units)))


def can_make(parts_list, allowances, date, counts, many):
    """Whether so many things can be made, by taking away one made thing after the other."""
    uses = sorted({_uses(thing) for thing in made_things(parts_list, allowances, date)})
    reached = {tuple(sorted(counts.items()))}
    for _ in range(many):
        following = set()
        for left in reached:
            for used in uses:
                rest = dict(left)
                for part, units in used:
                    rest[part] = rest.get(part, 0) - units
                if min(rest.values()) >= 0:
                    following.add(tuple(sorted(rest.items())))
        reached = following
    return len(reached) > 0


def most(parts_list, allowances, date, counts):
    """How many things can be made."""
    many = 0
    while can_make(parts_list, allowances, date, counts, many + 1):
        many += 1
    return many


def lack(parts_list, allowances, date, counts, many):
    """The first set, of any parts at all, with fewer units than it must give, or None."""
    parts = set(fitting(parts_list, allowances, date)) | set(counts)
    for chosen in all_sets(parts):
        if sum(counts.get(part, 0) for part in chosen) < many * demand(parts_list, allowances, date, chosen):
            return chosen
    return None
