"""The definitions of the document, done by trying all ways. Slow, and only for small things."""

from itertools import chain, combinations, combinations_with_replacement, permutations, product


def candidates(allowances, plain, date):
    """The set of the candidates, from the rows of the book."""
    found = {plain}
    while True:
        bases = found if allowances.through else {plain}
        more = {part for part, base, since, till in allowances.rows()
                if base in bases and since <= date and (till is None or date <= till)}
        if more <= found:
            return found
        found = found | more


def all_sets(parts):
    """All sets of parts as ascending tuples, those with fewer parts ahead, then ascending."""
    parts = sorted(parts)
    return list(chain.from_iterable(combinations(parts, size) for size in range(len(parts) + 1)))


def demand(parts_list, allowances, date, parts):
    """The demand on a set of parts, as point 7 tells it."""
    total = 0
    for word, plain, number, share in parts_list.places():
        if candidates(allowances, plain, date) <= set(parts):
            total += number
        elif plain in parts and share is not None:
            total += number - share
    return total


def fitting(parts_list, allowances, date):
    """All parts that are a candidate somewhere."""
    return sorted(set().union(*[candidates(allowances, place[1], date) for place in parts_list.places()]))


def made_things(parts_list, allowances, date):
    """All made things of a list."""
    ways = []
    for word, plain, number, share in parts_list.places():
        parts = sorted(candidates(allowances, plain, date))
        ways.append([(word, units) for units in combinations_with_replacement(parts, number)
                     if share is None or number - units.count(plain) <= share])
    return list(product(*ways))


def _uses(thing):
    units = sorted(chain.from_iterable(parts for _, parts in thing))
    return tuple(sorted((part, units.count(part)) for part in set(units)))


def left_behind(parts_list, allowances, date, lefts, many):
    """All that may be left of some stocks behind so many things; stocks as sorted tuples of (part, units)."""
    uses = sorted({_uses(thing) for thing in made_things(parts_list, allowances, date)})
    reached = set(lefts)
    for _ in range(many):
        following = set()
        for left in reached:
            for used in uses:
                rest = dict(left)
                for part, units in used:
                    rest[part] = rest.get(part, 0) - units
                if min(rest.values()) >= 0:
                    following.add(tuple(sorted(rest.items())))
        reached = following
    return reached


def can_make(parts_list, allowances, date, counts, many):
    """Whether so many things can be made, by taking away one made thing after the other."""
    return len(left_behind(parts_list, allowances, date, [tuple(sorted(counts.items()))], many)) > 0


def most(parts_list, allowances, date, counts):
    """How many things can be made."""
    many = 0
    while can_make(parts_list, allowances, date, counts, many + 1):
        many += 1
    return many


def lack(parts_list, allowances, date, counts, many):
    """The first set, of any parts at all, with fewer units than it must give, or None."""
    parts = set(fitting(parts_list, allowances, date)) | set(counts)
    for chosen in all_sets(parts):
        if sum(counts.get(part, 0) for part in chosen) < many * demand(parts_list, allowances, date, chosen):
            return chosen
    return None


def rows_of(many, length):
    """All rows of so many numbers with the sum many, ascending."""
    return [row for row in product(range(many + 1), repeat=length) if sum(row) == many]


def can_make_row(eithers, allowances, date, counts, row):
    """Whether so many things of each choice can be made together."""
    lefts = [tuple(sorted(counts.items()))]
    for choice, number in zip(eithers.combinations(), row):
        lefts = left_behind(eithers.list_of(choice), allowances, date, lefts, number)
    return len(lefts) > 0


def numbers_for(eithers, allowances, date, counts, many):
    """The first row of numbers by which so many things can be made, or None."""
    for row in rows_of(many, 2 ** len(eithers)):
        if can_make_row(eithers, allowances, date, counts, row):
            return row
    return None


def lack_of_row(eithers, allowances, date, counts, row):
    """The first set, of any parts at all, with fewer units than a row asks, or None."""
    lists = [eithers.list_of(choice) for choice in eithers.combinations()]
    parts = set(counts).union(*[fitting(parts_list, allowances, date) for parts_list in lists])
    for chosen in all_sets(parts):
        asked = sum(many * demand(parts_list, allowances, date, chosen) for many, parts_list in zip(row, lists))
        if sum(counts.get(part, 0) for part in chosen) < asked:
            return chosen
    return None


def totals(parts_list, allowances, date, many):
    """What all lists of so many made things have together: tuples of ((word, part), units), as a set."""
    ways = set()
    for thing in made_things(parts_list, allowances, date):
        ways.add(tuple(sorted(((word, part), units.count(part)) for word, units in thing for part in set(units))))
    reached = {()}
    for _ in range(many):
        following = set()
        for total in reached:
            for way in ways:
                both = dict(total)
                for key, units in way:
                    both[key] = both.get(key, 0) + units
                following.add(tuple(sorted(both.items())))
        reached = following
    return reached


def units_of(total):
    """The units by parts of what totals tells."""
    used = {}
    for (_, part), units in total:
        used[part] = used.get(part, 0) + units
    return used


def uses(parts_list, allowances, date, counts, many):
    """The least and greatest uses of all dealings, by candidates, or None if there is no dealing."""
    used = [units_of(total) for total in totals(parts_list, allowances, date, many)]
    used = [row for row in used if all(units <= counts.get(part, 0) for part, units in row.items())]
    if not used:
        return None
    return {part: (min(row.get(part, 0) for row in used), max(row.get(part, 0) for row in used))
            for part in fitting(parts_list, allowances, date)}


def told_back(parts_list, allowances, date, many, ahead, behind):
    """The least and greatest units by (word, part) of all dealings that take just what lacks, or None."""
    parts = sorted(set(ahead) | set(behind))
    lacking = {part: ahead.get(part, 0) - behind.get(part, 0) for part in parts}
    lacking = {part: units for part, units in lacking.items() if units != 0}
    fits = [dict(total) for total in totals(parts_list, allowances, date, many) if units_of(total) == lacking]
    if not fits:
        return None
    told = {}
    for word, plain, _, _ in parts_list.places():
        others = sorted(candidates(allowances, plain, date) - {plain})
        for part in [plain] + others:
            units = [total.get((word, part), 0) for total in fits]
            told[(word, part)] = (min(units), max(units))
    return told


def wanted_units(parts_list, allowances, event):
    """The set of the candidates for each single unit that an ask or an order asks."""
    places = [parts_list[event[1]][:2] + (1,)] if event[0] == "ask" else [row[:3] for row in parts_list.places()]
    return [candidates(allowances, plain, event[-1]) for _, plain, number in places for _ in range(number)]


def could_serve(parts_list, allowances, events, served):
    """Whether all asks and orders at some indexes could be served, by trying all units for each."""
    asked = [(index, fits) for index in served for fits in wanted_units(parts_list, allowances, events[index])]

    def fill(k, gone):
        if k == len(asked):
            return True
        index, fits = asked[k]
        return any(fill(k + 1, gone | {came}) for came in range(index)
                   if events[came][0] == "come" and came not in gone and events[came][1] in fits)

    return fill(0, frozenset())


def preference(kind, order, plain, unit):
    """What is less for a unit that a place prefers, as point 13 tells it."""
    part, day = unit
    rank = (order.index(part), "") if part in order else (len(order), part)
    return {"row": (rank, day), "plain": (part != plain, rank, day), "eldest": (day, rank)}[kind]


def answers(parts_list, allowances, kind, orders, events):
    """The answers to events, and the units that are there behind all, as point 14 tells it."""
    units, told = [], []
    for event in events:
        if event[0] == "come":
            units.append(event[1:])
            told.append(True)
            continue
        asked = [event[1]] if event[0] == "ask" else parts_list.words()
        left, thing = list(units), []
        for word in asked:
            _, plain, number, _ = parts_list[word]
            thing.append((word, []))
            for _ in range(1 if event[0] == "ask" else number):
                fits = [unit for unit in left if unit[0] in candidates(allowances, plain, event[-1])]
                if not fits:
                    thing = None
                    break
                best = min(fits, key=lambda unit: preference(kind, orders.get(word, ()), plain, unit))
                left.remove(best)
                thing[-1][1].append(best[0])
            if thing is None:
                break
        if thing is None:
            told.append(None)
            continue
        units = left
        told.append(thing[0][1][0] if event[0] == "ask" else tuple((word, tuple(parts)) for word, parts in thing))
    return told, sorted(units)


def first_wrong(parts_list, allowances, kind, orders, events):
    """The index of the first event that is refused though it could be served, or None."""
    told, _ = answers(parts_list, allowances, kind, orders, events)
    served = []
    for index, event in enumerate(events):
        if event[0] == "come":
            continue
        if told[index] is not None:
            served.append(index)
        elif could_serve(parts_list, allowances, events, served + [index]):
            return index
    return None


def dates(allowances):
    """0, the dates at which an allowance begins, and those behind the last date of one."""
    begins = {since for _, _, since, _ in allowances.rows()}
    behind = {till + 1 for _, _, _, till in allowances.rows() if till is not None and till < 9999}
    return sorted({0} | begins | behind)


def uses_from(parts_list, allowances, part, date):
    """The uses of a part from a date on, as point 15 tells it."""
    days = [date] + [day for day in dates(allowances) if day > date]
    return [(word, day) for day in days for word, plain, _, _ in parts_list.places()
            if part in candidates(allowances, plain, day)]


def uses_within(parts_list, allowances, one, other, date):
    """Whether all uses of a part from a date on are uses of another one."""
    return set(uses_from(parts_list, allowances, one, date)) <= set(uses_from(parts_list, allowances, other, date))


def ever_candidates(parts_list, allowances, word):
    """The set of all parts that are ever candidates of a place."""
    return set().union(*[candidates(allowances, parts_list[word][1], date) for date in dates(allowances)])


def must_be_ahead(parts_list, allowances, word, part, other, days):
    """Whether a part must be ahead of another one for a place, as point 16 tells it, at some of the days."""
    for date in days:
        fits = candidates(allowances, parts_list[word][1], date)
        if part in fits and other in fits and not uses_within(parts_list, allowances, other, part, date):
            return True
    return False


def can_be_preferred(parts_list, kind, orders, word, date, part, other):
    """Whether at some date a place prefers some unit of a part to some unit of another one that can be there."""
    plain, order = parts_list[word][1], orders.get(word, ())
    return any(preference(kind, order, plain, (part, one)) < preference(kind, order, plain, (other, day))
               for one in {0, date} for day in {0, date})


def is_rule_right(parts_list, allowances, kind, orders, days):
    """Whether, whatever unit is preferred at one of the days, each use of its part is one of the other part."""
    for word, plain, _, _ in parts_list.places():
        for date in days:
            for part, other in permutations(sorted(candidates(allowances, plain, date)), 2):
                if can_be_preferred(parts_list, kind, orders, word, date, part, other):
                    if not uses_within(parts_list, allowances, part, other, date):
                        return False
    return True


def small_events(parts_list, parts, last):
    """All rows of two comings and two asks, the second ask behind all, with days up to a last one."""
    units, words = [("come", part) for part in parts], [("ask", word) for word in parts_list.words()]
    for days in combinations_with_replacement(range(last + 1), 4):
        for one, other, first, second in product(units, units, words, words):
            for row in [(one, other, first, second), (one, first, other, second), (first, one, other, second)]:
                yield [(*event, day) for event, day in zip(row, days)]


def shows_fault(parts_list, allowances, kind, orders, events):
    """Whether the last event is refused though it could be served."""
    told, _ = answers(parts_list, allowances, kind, orders, events)
    served = [index for index, event in enumerate(events) if event[0] != "come" and told[index] is not None]
    return told[-1] is None and could_serve(parts_list, allowances, events, served + [len(events) - 1])
