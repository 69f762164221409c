"""Growing: how many orders behind one another a stock serves by a rule."""

from standinparts.errors import TooMany
from standinparts.serving import check_shares

MOST_UNITS_TAKEN = 1000


def takes_order(wanted, units):
    """Takes what one order wants off the units of parts, as far as it is there, and tells whether all of it was.

    wanted has tuples (number, parts), the parts in the order in which they are taken.
    """
    for number, parts in wanted:
        lacking = number
        for part in parts:
            got = min(int(units[part]), lacking)
            units[part] = units[part] - got
            lacking = lacking - got
        if lacking > 0:
            return False
    return True


def made_by(parts_list, allowances, rule, date, stock):
    """How many orders behind one another are served from a stock all units of which came at the date."""
    check_shares(parts_list)
    wanted = []
    for place in parts_list.places():
        # Of units of one day the place always takes those of one part as long as there are any.
        wanted.append((place[2], rule.preferred_ahead(place, allowances(place[1], date))))
    units = {part: stock[part] for _, parts in wanted for part in parts}
    if sum(units.values()) > MOST_UNITS_TAKEN:
        raise TooMany(MOST_UNITS_TAKEN)
    made = 0
    while takes_order(wanted, units):
        made += 1
    return made
