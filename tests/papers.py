"""Papers of rules, judged as point 17 of the document tells it, by trying all dates and places. Slow and plain."""

from tests import brute


def is_day(value):
    """Whether a value is a date."""
    return type(value) is int and 0 <= value <= 9999


def is_name(value):
    """Whether a value is a string."""
    return type(value) is str


def is_event(parts_list, value):
    """Whether a value is an event of a list."""
    if type(value) is not tuple or not value or not is_name(value[0]) or not is_day(value[-1]):
        return False
    if value[0] == "order":
        return len(value) == 2
    if len(value) != 3 or not is_name(value[1]):
        return False
    if value[0] == "ask":
        return value[1] in parts_list.words()
    letters = set("abcdefghijklmnopqrstuvwxyz")
    return value[0] == "come" and 1 <= len(value[1]) <= 8 and set(value[1]) <= letters


def is_right_paper(parts_list, allowances, kind, orders, rows):
    """Whether rows show that a rule is right."""
    days = brute.dates(allowances)
    if type(rows) is not list or any(type(row) is not tuple or len(row) != 3 for row in rows):
        return False
    for word, date, parts in rows:
        if not is_name(word) or not is_day(date) or type(parts) is not tuple or not all(map(is_name, parts)):
            return False
    if sorted(row[:2] for row in rows) != sorted((word, day) for word in parts_list.words() for day in days):
        return False
    for word, date, parts in rows:
        plain = parts_list[word][1]
        fits = brute.candidates(allowances, plain, date)
        if list(parts) != sorted(fits, key=lambda part: brute.preference(
                kind, orders.get(word, ()), plain, (part, 0))):
            return False
        pairs = list(zip(parts, parts[1:]))
        if kind == "eldest" and not (date == 0 and 1 in days):
            pairs += [(other, one) for one, other in pairs]
        if not all(brute.uses_within(parts_list, allowances, one, other, date) for one, other in pairs):
            return False
    return True


def units_got(parts_list, event, got):
    """The tuples (place, part) that an ask or an order gets as it is told, or None if it is told wrongly."""
    if event[0] == "ask":
        return [(parts_list[event[1]], got)] if is_name(got) else None
    if type(got) is not tuple or len(got) != len(parts_list):
        return None
    found = []
    for place, entry in zip(parts_list.places(), got):
        if type(entry) is not tuple or len(entry) != 2 or not is_name(entry[0]) or entry[0] != place[0]:
            return None
        if type(entry[1]) is not tuple or len(entry[1]) != place[2] or not all(map(is_name, entry[1])):
            return None
        found += [(place, part) for part in entry[1]]
    return found


def is_wrong_paper(parts_list, allowances, kind, orders, events, served):
    """Whether the last of some events is refused, though it could get what is told."""
    if type(events) is not list or type(served) is not list or not events:
        return False
    if not all(is_event(parts_list, event) for event in events) or events[-1][0] == "come":
        return False
    if [event[-1] for event in events] != sorted(event[-1] for event in events):
        return False
    told, _ = brute.answers(parts_list, allowances, kind, orders, events)
    asked = [k for k, event in enumerate(events) if event[0] != "come" and told[k] is not None]
    if told[-1] is not None or len(served) != len(asked) + 1:
        return False
    gone = set()
    for k, got in zip(asked + [len(events) - 1], served):
        units = units_got(parts_list, events[k], got)
        if units is None:
            return False
        for place, part in units:
            came = [at for at in range(k) if events[at][:2] == ("come", part) and at not in gone]
            if not came or part not in brute.candidates(allowances, place[1], events[k][-1]):
                return False
            gone.add(came[0])
    return True


def is_rule_paper(parts_list, allowances, kind, orders, value):
    """Whether a value is a paper of a rule."""
    if type(value) is not tuple or not value or not is_name(value[0]):
        return False
    if value[0] == "right" and len(value) == 2:
        return is_right_paper(parts_list, allowances, kind, orders, value[1])
    return value[0] == "wrong" and len(value) == 3 and is_wrong_paper(
        parts_list, allowances, kind, orders, value[1], value[2])


def is_step(parts_list, allowances, word, step, following):
    """Whether a step shows that its part must be ahead of that of the following step."""
    part, date, other_word, later = step
    fits = brute.candidates(allowances, parts_list[word][1], date)
    if part not in fits or following[0] not in fits or later < date:
        return False
    fits = brute.candidates(allowances, parts_list[other_word][1], later)
    return following[0] in fits and part not in fits


def is_ring_paper(parts_list, allowances, value):
    """Whether a value is a paper that there is no right rule."""
    if type(value) is not tuple or len(value) != 3 or not is_name(value[0]) or value[0] != "ring":
        return False
    _, word, steps = value
    if not is_name(word) or word not in parts_list.words() or type(steps) is not list or len(steps) < 2:
        return False
    for step in steps:
        if type(step) is not tuple or len(step) != 4 or not is_name(step[0]) or not is_name(step[2]):
            return False
        if not is_day(step[1]) or not is_day(step[3]) or step[2] not in parts_list.words():
            return False
    return all(is_step(parts_list, allowances, word, step, following)
               for step, following in zip(steps, steps[1:] + steps[:1]))
