"""Runs: units come, and asks and orders take them by a rule."""

from standinparts.errors import BadEvent, BadEvents
from standinparts.words import is_date, is_word


def is_event(parts_list, value):
    """Whether any value is an event of a list."""
    if not isinstance(value, tuple) or not 2 <= len(value) <= 3:
        return False
    kind, *names = value[:-1]
    if not isinstance(kind, str) or not is_date(value[-1]):
        return False
    if kind == "order":
        return len(names) == 0
    if kind == "come":
        return len(names) == 1 and is_word(names[0])
    return kind == "ask" and len(names) == 1 and names[0] in parts_list


def places_asked(parts_list, event):
    """The tuples (place, number): for which places an ask or an order wants how many units."""
    if event[0] == "ask":
        return [(parts_list[event[1]], 1)]
    return [(place, place[2]) for place in parts_list.places()]


def preferred(rule, place, candidates, held):
    """The candidate that a rule takes for a place from what is held, or None if there is none."""
    best = None
    for part in candidates:
        if len(held.get(part, ())) > 0:
            # Of one part's units the one with the least day is always preferred.
            unit = (part, held[part][0])
            if best is None or rule(place, unit, best):
                best = unit
    return None if best is None else best[0]


def taken(allowances, rule, asked, held, day):
    """What places get, a tuple of (word, parts), and what is held then; (None, held) if one unit lacks.

    asked is as places_asked tells it; held has for parts the days of their units, ascending.
    """
    left = {part: held[part] for part in held}
    thing = []
    for place, number in asked:
        candidates = allowances(place[1], day)
        parts = []
        for _ in range(number):
            part = preferred(rule, place, candidates, left)
            if part is None:
                return None, held
            left[part] = left[part][1:]
            parts.append(part)
        thing.append((place[0], tuple(parts)))
    return tuple(thing), left


class Run:
    """Events that were done one behind the other, and the units that are there behind them."""

    def __init__(self, parts_list, allowances, rule):
        self._parts_list = parts_list
        self._allowances = allowances
        self._rule = rule
        # For parts the tuples of the days on which their units came, ascending.
        self._held = {}
        self._days = []

    def do(self, event):
        """Does an event, and tells the answer to it."""
        if not is_event(self._parts_list, event):
            raise BadEvent(event)
        day = event[-1]
        if len(self._days) > 0 and day < self._days[-1]:
            raise BadEvent(event)
        answer = True
        if event[0] == "come":
            self._held[event[1]] = (*self._held.get(event[1], ()), day)
        else:
            asked = places_asked(self._parts_list, event)
            answer, self._held = taken(self._allowances, self._rule, asked, self._held, day)
            if event[0] == "ask" and answer is not None:
                answer = answer[0][1][0]
        self._days.append(day)
        return answer

    def units(self):
        """The units that are there, each as often as it is there, the least ones ahead."""
        return [(part, day) for part in sorted(set(self._held)) for day in self._held[part]]

    def __len__(self):
        return len(self._days)

    def copy(self):
        """A run behind the same events that goes on by itself."""
        other = Run(self._parts_list, self._allowances, self._rule)
        other._held = {part: self._held[part] for part in self._held}
        other._days = list(self._days)
        return other


def played(parts_list, allowances, rule, events):
    """The list of the answers to some events."""
    run = Run(parts_list, allowances, rule)
    answers = []
    for index, event in enumerate(events):
        try:
            answers.append(run.do(event))
        except BadEvent:
            raise BadEvents(index) from None
    return answers


def running(parts_list, allowances, rule, events):
    """Tells the answers to the events of any iterable, one by one."""
    run = Run(parts_list, allowances, rule)
    for event in events:
        yield run.do(event)
