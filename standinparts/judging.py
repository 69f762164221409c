"""Judging rules: whether a rule ever refuses what could be served, and which rules never do."""

from standinparts.rules import Rule
from standinparts.serving import check_shares
from standinparts.usetable import UseTable


def uses_from(parts_list, allowances, part, date):
    """The uses (word, date) of a part from a date on, by dates, then by places in order."""
    check_shares(parts_list)
    dates = [date] + [later for later in allowances.dates() if later > date]
    return [(word, day) for day in dates for word, plain, _, _ in parts_list.places()
            if part in allowances(plain, day)]


def dates_judged(allowances, rule):
    """The dates at which a rule is to be looked at: between them nothing changes."""
    # At the date 0 all units are of one day; from 1 on any part may have the elder unit.
    return sorted(set(allowances.dates() + ([1] if rule.kind == "eldest" else [])))


def pairs_preferred(rule, place, candidates, date):
    """The tuples (part, other) of candidates the first of which can be preferred at a date."""
    ahead = rule.preferred_ahead(place, candidates)
    pairs = []
    for at, part in enumerate(ahead):
        others = ahead[at + 1:]
        if rule.kind == "eldest" and date > 0:
            others = ahead[:at] + others
        pairs.extend([(part, other) for other in others])
    return pairs


def fault(parts_list, allowances, rule):
    """None if a rule is right, else (word, date, part, other, word, date): what is preferred, and a use it lacks."""
    check_shares(parts_list)
    table = UseTable(parts_list, allowances, dates_judged(allowances, rule))
    for place in parts_list.places():
        for date in table.days():
            for part, other in pairs_preferred(rule, place, table.fits(place[0], date), date):
                use = table.use_beyond(part, other, date)
                if use is not None:
                    return (place[0], date, part, other, *use)
    return None


def events_of(parts_list, rule, found):
    """Four events the last of which is refused though it could be served, by a fault that was found."""
    word, date, part, other, later_word, later = found
    day = date
    if not rule(parts_list[word], (part, date), (other, date)):
        # Only an elder unit of this part is preferred.
        day = date - 1
    return [("come", part, day), ("come", other, date), ("ask", word, date), ("ask", later_word, later)]


def faulty_events(parts_list, allowances, rule):
    """Four events the last of which is refused though it could be served, or None."""
    found = fault(parts_list, allowances, rule)
    return None if found is None else events_of(parts_list, rule, found)


def is_right(parts_list, allowances, rule):
    """Whether a rule never refuses what could be served."""
    return fault(parts_list, allowances, rule) is None


def must_be_ahead(table, word, part, other):
    """Why a part must be ahead of another one for a place, or None: (date, word, date).

    At the first date both are candidates, and the second word and date are a use that
    the other one has and the part has not.
    """
    for date in table.days():
        fits = table.fits(word, date)
        if part in fits and other in fits:
            use = table.use_beyond(other, part, date)
            if use is not None:
                return (date, *use)
    return None


def order_of(table, word):
    """The tuple (order, left, ahead) for a place.

    order is the right order as far as there is one, at each step the part that is
    first by name; left has the parts that cannot follow; ahead has for each part those
    that must be ahead of it, all ascending.
    """
    left = table.ever_fits(word)
    ahead = {part: [one for one in left if must_be_ahead(table, word, one, part) is not None] for part in left}
    order = []
    while True:
        free = [part for part in left if not any([one in left for one in ahead[part]])]
        if len(free) == 0:
            return tuple(order), left, ahead
        order.append(free[0])
        left = [part for part in left if part != free[0]]


def ring_of(left, ahead):
    """A ring among parts none of which can follow, as others of them must be ahead of each."""
    path = [left[0]]
    while True:
        before = [part for part in ahead[path[-1]] if part in left][0]
        if before in path:
            return path[path.index(before):][::-1]
        path.append(before)


def right_rule(parts_list, allowances):
    """The rule of the kind row with right orders, or None if there is none."""
    check_shares(parts_list)
    table = UseTable(parts_list, allowances, allowances.dates())
    orders = {}
    for word in parts_list.words():
        order, left, _ = order_of(table, word)
        if len(left) > 0:
            return None
        orders[word] = order
    return Rule("row", orders)


def ring_in(parts_list, table):
    """The word of the first place without a right order, and a ring of its parts; None if there is no such place."""
    for word in parts_list.words():
        _, left, ahead = order_of(table, word)
        if len(left) > 0:
            return word, ring_of(left, ahead)
    return None


def ring(parts_list, allowances):
    """None if there is a right rule, else (word, parts) with a ring of parts."""
    check_shares(parts_list)
    return ring_in(parts_list, UseTable(parts_list, allowances, allowances.dates()))
