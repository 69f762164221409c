"""How many things can be made from a stock, and by which dealing of the units."""

from standinparts.demand import Demand, asked_by
from standinparts.errors import BadMany, BadStock, TooMany
from standinparts.stocks import MOST_COUNT, Stock
from standinparts.words import is_integer, is_word

MOST_DEALT = 200


def checked_demand(parts_list, allowances, date, stock):
    """The demand, after the errors that all calls with a stock have in common."""
    demand = Demand(parts_list, allowances, date)
    if not isinstance(stock, Stock):
        raise BadStock(stock)
    return demand


def check_many(many):
    """Raises BadMany for any value that is no number of things."""
    if not is_integer(many, 0, MOST_COUNT):
        raise BadMany(many)


def most(parts_list, allowances, date, stock):
    """The greatest number of things for which there is a dealing."""
    demand = checked_demand(parts_list, allowances, date, stock)
    return min([int(stock.total(parts) // units) for parts, units in demand.table().items()])


def lack(parts_list, allowances, date, stock, many):
    """None if so many things can be made, else the first set of parts with too few units."""
    demand = checked_demand(parts_list, allowances, date, stock)
    check_many(many)
    for parts, units in demand.table().items():
        if stock.total(parts) < many * units:
            return parts
    return None


def unit_choices(asked):
    """For each unit of one thing, place by place, the parts of which it may be.

    As many units as may be others than the plain part are free, the rest is bound.
    """
    choices = []
    for _, candidates, number, share in asked:
        choices.extend([candidates[:1]] * (number - share))
        choices.extend([candidates] * share)
    return choices


def give_part(unit, choices, stock, givings, tried):
    """Gives a part to one more unit; units that have one may change to another one.

    givings has for each part the units that it is given to; tried has the parts
    from which nothing more is to be hoped in this search. Tells whether it was done.
    """
    for part in choices[unit]:
        if part in tried:
            continue
        tried[part] = True
        if len(givings[part]) < stock[part]:
            givings[part].append(unit)
            return True
        for other in list(givings[part]):
            if give_part(other, choices, stock, givings, tried):
                givings[part].remove(other)
                givings[part].append(unit)
                return True
    return False


def given_parts(choices, stock):
    """A part for each unit, by the unit's index, no more of any than the stock has."""
    givings = {part: [] for parts in choices for part in parts}
    for k in range(len(choices)):
        give_part(k, choices, stock, givings, {})
    return {unit: part for part, units in givings.items() for unit in units}


def made_things(asked, many, given):
    """The things that the units make, which come thing by thing and place by place."""
    things = []
    begin = 0
    for _ in range(many):
        thing = []
        for word, _, number, _ in asked:
            units = sorted([str(given[unit]) for unit in range(begin, begin + number)])
            thing.append((word, tuple(units)))
            begin += number
        things.append(tuple(thing))
    return things


def dealing(parts_list, allowances, date, stock, many):
    """A dealing of so many things, or None if there is none."""
    if lack(parts_list, allowances, date, stock, many) is not None:
        return None
    if many * parts_list.units() > MOST_DEALT:
        raise TooMany(MOST_DEALT)
    asked = asked_by(parts_list, allowances, date)
    return made_things(asked, many, given_parts(unit_choices(asked) * many, stock))


def is_filled(place, value):
    """Whether any value is the tuple (word, units) of a place with its candidates, number and share."""
    word, candidates, number, share = place
    if not isinstance(value, tuple) or len(value) != 2:
        return False
    told, units = value
    if not is_word(told) or told != word or not isinstance(units, tuple) or len(units) != number:
        return False
    if not all([is_word(part) and part in candidates for part in units]):
        return False
    if not all([units[k] <= units[k + 1] for k in range(number - 1)]):
        return False
    return number - units.count(candidates[0]) <= share


def is_made(asked, value):
    """Whether any value is a made thing of places with their candidates."""
    if not isinstance(value, tuple) or len(value) != len(asked):
        return False
    return all([is_filled(place, row) for place, row in zip(asked, value)])


def is_thing(parts_list, allowances, date, value):
    """Whether any value is a made thing."""
    return is_made(asked_by(parts_list, allowances, date), value)


def units_used(things):
    """How many units of each part some made things have together."""
    used = {}
    for thing in things:
        for _, units in thing:
            for part in units:
                used[part] = used.get(part, 0) + 1
    return used


def is_dealing(parts_list, allowances, date, stock, many, value):
    """Whether any value is a dealing of so many things."""
    checked_demand(parts_list, allowances, date, stock)
    check_many(many)
    if not isinstance(value, list) or len(value) != many:
        return False
    asked = asked_by(parts_list, allowances, date)
    if not all([is_made(asked, thing) for thing in value]):
        return False
    return all([units <= stock[part] for part, units in units_used(value).items()])


def is_lack(parts_list, allowances, date, stock, many, value):
    """Whether any value is an ascending tuple of different words with too few units."""
    demand = checked_demand(parts_list, allowances, date, stock)
    check_many(many)
    if not isinstance(value, tuple) or not all([is_word(part) for part in value]):
        return False
    if not all([value[k] < value[k + 1] for k in range(len(value) - 1)]):
        return False
    return stock.total(value) < many * demand(value)
