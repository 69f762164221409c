"""Checking papers of rules, whoever wrote them: what is let by is right."""

from standinparts.errors import BadEvents
from standinparts.runs import places_asked, played
from standinparts.serving import check_shares
from standinparts.usetable import UseTable
from standinparts.words import is_date, is_word


def are_words(value):
    """Whether any value is a tuple of words."""
    return isinstance(value, tuple) and all([is_word(part) for part in value])


def is_row(value):
    """Whether any value is a tuple (word, date, parts)."""
    if not isinstance(value, tuple) or len(value) != 3:
        return False
    return is_word(value[0]) and is_date(value[1]) and are_words(value[2])


def is_right_row(table, rule, place, date, parts):
    """Whether a tuple of words has the candidates of a place at a date, none of them taken ahead of a better one."""
    fits = table.fits(place[0], date)
    if len(parts) != len(fits) or not all([part in parts for part in fits]):
        return False
    # Where units are of unlike days, the rule eldest may take any of them; at the date 0 they are all of one day.
    alike = rule.kind == "eldest" and (date > 0 or 1 not in table.days())
    for one, other in zip(parts[:-1], parts[1:]):
        if not rule(place, (one, date), (other, date)) or table.use_beyond(one, other, date) is not None:
            return False
        if alike and table.use_beyond(other, one, date) is not None:
            return False
    return True


def shows_right(parts_list, allowances, rule, rows):
    """Whether any value is a list of the rows of a paper that a rule is right."""
    if not isinstance(rows, list) or not all([is_row(row) for row in rows]):
        return False
    told = {(word, date): parts for word, date, parts in rows}
    wanted = [(place, date) for place in parts_list.places() for date in allowances.dates()]
    if len(rows) != len(wanted) or not all([(place[0], date) in told for place, date in wanted]):
        return False
    table = UseTable(parts_list, allowances, allowances.dates())
    return all([is_right_row(table, rule, place, date, told[(place[0], date)]) for place, date in wanted])


def is_got(wanted, value):
    """Whether any value is a tuple of (word, parts) with as many parts for each place as are wanted.

    wanted has tuples (place, number).
    """
    if not isinstance(value, tuple) or len(value) != len(wanted):
        return False
    for (place, number), row in zip(wanted, value):
        if not isinstance(row, tuple) or len(row) != 2 or not is_word(row[0]) or row[0] != place[0]:
            return False
        if not are_words(row[1]) or len(row[1]) != number:
            return False
    return True


def takes(allowances, wanted, day, rows, held):
    """Takes the parts of some rows off the units that are held, and tells whether all are there and fit."""
    for (place, _), (_, parts) in zip(wanted, rows):
        for part in parts:
            if part not in allowances(place[1], day) or held.get(part, 0) == 0:
                return False
            held[part] = held[part] - 1
    return True


def could_get(parts_list, allowances, events, served):
    """Whether events could get together what is told for each: by indexes, any value for an ask or an order."""
    held = {}
    for index, event in enumerate(events):
        if event[0] == "come":
            held[event[1]] = held.get(event[1], 0) + 1
        elif index in served:
            # An ask is told by the part alone.
            rows = ((event[1], (served[index],)),) if event[0] == "ask" else served[index]
            wanted = places_asked(parts_list, event)
            if not is_got(wanted, rows) or not takes(allowances, wanted, event[-1], rows, held):
                return False
    return True


def shows_wrong(parts_list, allowances, rule, events, served):
    """Whether any values are the events, and what is served, of a paper that a rule is wrong."""
    if not isinstance(events, list) or not isinstance(served, list) or len(events) == 0:
        return False
    try:
        answers = played(parts_list, allowances, rule, events)
    except BadEvents:
        return False
    last = len(events) - 1
    # A unit that comes is answered by True, so that None is an ask or an order that was refused.
    if answers[last] is not None:
        return False
    asked = [index for index in range(len(events))
             if events[index][0] != "come" and (answers[index] is not None or index == last)]
    if len(served) != len(asked):
        return False
    told = {index: got for index, got in zip(asked, served)}
    return could_get(parts_list, allowances, events, told)


def lets_rule(parts_list, allowances, rule, value):
    """Whether any value is a paper of a rule."""
    check_shares(parts_list)
    if not isinstance(value, tuple) or not 2 <= len(value) <= 3 or not isinstance(value[0], str):
        return False
    if len(value) == 2:
        return value[0] == "right" and shows_right(parts_list, allowances, rule, value[1])
    return value[0] == "wrong" and shows_wrong(parts_list, allowances, rule, value[1], value[2])


def is_step(parts_list, value):
    """Whether any value is a tuple (part, date, word, date), the dates in order and the word that of a place."""
    if not isinstance(value, tuple) or len(value) != 4:
        return False
    part, date, word, later = value
    return is_word(part) and is_date(date) and word in parts_list and is_date(later) and date <= later


def shows_ahead(parts_list, allowances, word, step, other):
    """Whether a step shows that its part must be ahead of another one for a place."""
    part, date, later_word, later = step
    fits = allowances(parts_list[word][1], date)
    later_fits = allowances(parts_list[later_word][1], later)
    return part in fits and other in fits and other in later_fits and part not in later_fits


def lets_ring(parts_list, allowances, value):
    """Whether any value is a paper that there is no right rule."""
    check_shares(parts_list)
    if not isinstance(value, tuple) or len(value) != 3 or not isinstance(value[0], str) or value[0] != "ring":
        return False
    _, word, steps = value
    if word not in parts_list or not isinstance(steps, list) or len(steps) < 2:
        return False
    if not all([is_step(parts_list, step) for step in steps]):
        return False
    following = steps[1:] + steps[:1]
    return all([shows_ahead(parts_list, allowances, word, step, after[0]) for step, after in zip(steps, following)])
