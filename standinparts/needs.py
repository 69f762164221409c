"""Uses: how many units of its parts making things takes, and what can be told back from two stocks."""

from standinparts.demand import asked_by, candidates_of
from standinparts.errors import BadNumber, BadPart
from standinparts.flows import SINK, SOURCE, Network
from standinparts.making import units_used
from standinparts.stocks import MOST_COUNT, Stock
from standinparts.words import is_integer, is_word


def check_number(many):
    """Raises BadNumber for any value that is no number of things."""
    if not is_integer(many, 0, MOST_COUNT):
        raise BadNumber(many)


def way_to(place, part):
    """The way (from, to) on which the units of a candidate go to a place of the asked ones."""
    word, candidates, _, _ = place
    # All units that are not the plain part go through one node, which holds them to the share.
    return ("part", part), ("place" if part == candidates[0] else "others", word)


def network_of(asked, stock, many):
    """The ways from the units of a stock to the places of so many things."""
    network = Network()
    for part in candidates_of(asked):
        network.add_way(SOURCE, ("part", part), stock[part])
    for place in asked:
        word, candidates, number, share = place
        for part in candidates:
            start, end = way_to(place, part)
            network.add_way(start, end, many * number)
        network.add_way(("others", word), ("place", word), many * share)
        network.add_way(("place", word), SINK, many * number)
    return network


def units_dealt(asked, stock, many):
    """How many units of so many things can be had from a stock."""
    return network_of(asked, stock, many).flow(SOURCE, SINK)


def stock_with(stock, part, count):
    """A stock with another number of units of a part."""
    other = stock.copy()
    other[part] = count
    return other


def least_use(asked, stock, many, part):
    """The least use of a part, if so many things can be made: what cannot be had without it."""
    units = many * sum([number for _, _, number, _ in asked])
    return units - units_dealt(asked, stock_with(stock, part, 0), many)


def greatest_use(asked, stock, many, part):
    """The greatest use of a part, if so many things can be made.

    Its units may be dealt first, wherever they fit: what is dealt of one part need
    not go back when the places are filled up with others.
    """
    room = 0
    for _, candidates, number, share in asked:
        if part in candidates:
            room += number if part == candidates[0] else share
    return min(int(stock[part]), many * room)


def uses(parts_list, allowances, date, stock, many):
    """The tuples (least use, greatest use) by candidates, ascending, or None."""
    check_number(many)
    asked = asked_by(parts_list, allowances, date)
    if units_dealt(asked, stock, many) < many * parts_list.units():
        return None
    return {part: (least_use(asked, stock, many, part), greatest_use(asked, stock, many, part))
            for part in candidates_of(asked)}


def surely_needed(parts_list, allowances, date, stock, many):
    """The parts whose least use is above 0, ascending, or None."""
    told = uses(parts_list, allowances, date, stock, many)
    if told is None:
        return None
    return [part for part, (least, _) in told.items() if least > 0]


def least_stock(parts_list, allowances, date, stock, many, part):
    """The least number of a part with which so many things can be made, or None."""
    check_number(many)
    if not is_word(part):
        raise BadPart(part)
    asked = asked_by(parts_list, allowances, date)
    # Each unit more lets at most one unit more be dealt, so that what lacks without the part is the least.
    least = least_use(asked, stock, many, part)
    if least > MOST_COUNT:
        return None
    if units_dealt(asked, stock_with(stock, part, least), many) < many * parts_list.units():
        return None
    return least


def span_on(network, start, end):
    """The least and the greatest units that may flow on a way while the same units come and arrive."""
    now = network.flowing(start, end)
    # Units change to the way or leave it in a ring of ways, which closes through this one.
    closed = network.without(start, end)
    leaving = closed.copy().flow(start, end)
    coming = closed.flow(end, start)
    return now - min(now, int(leaving)), now + coming


def told_back(parts_list, allowances, date, many, ahead, behind):
    """The least and greatest units by (word, part) that went from one stock to the other, or None."""
    check_number(many)
    asked = asked_by(parts_list, allowances, date)
    if not behind <= ahead:
        return None
    taken = ahead - behind
    units = many * parts_list.units()
    network = network_of(asked, taken, many)
    if taken.total(taken.parts()) != units or network.flow(SOURCE, SINK) < units:
        return None
    told = {}
    for place in asked:
        for part in place[1]:
            start, end = way_to(place, part)
            told[(place[0], part)] = span_on(network, start, end)
    return told


def stock_behind(ahead, things):
    """The stock behind a list of things that were made from a stock."""
    return ahead - Stock(units_used(things))
