"""Papers of rules: what shows that a rule is right or wrong, or that there is no right rule."""

from standinparts.judging import events_of, fault, must_be_ahead, ring_in
from standinparts.serving import check_shares
from standinparts.usetable import UseTable


def rule_paper(parts_list, allowances, rule):
    """The paper (right, rows) or (wrong, events, served) of a rule."""
    found = fault(parts_list, allowances, rule)
    if found is not None:
        # The first ask takes the part; it could get the other one, so that the last ask could get the part.
        _, _, part, other, _, _ = found
        return "wrong", events_of(parts_list, rule, found), [other, part]
    rows = []
    for date in allowances.dates():
        for place in parts_list.places():
            rows.append((place[0], date, tuple(rule.preferred_ahead(place, allowances(place[1], date)))))
    return "right", rows


def no_rule_paper(parts_list, allowances):
    """The paper (ring, word, steps) that there is no right rule, or None if there is one."""
    check_shares(parts_list)
    table = UseTable(parts_list, allowances, allowances.dates())
    found = ring_in(parts_list, table)
    if found is None:
        return None
    word, parts = found
    following = parts[1:] + parts[:1]
    steps = [(part, *must_be_ahead(table, word, part, other)) for part, other in zip(parts, following)]
    return "ring", word, steps
