"""Runs: events, answers and what is there behind them."""

import random
import time
import unittest
from itertools import count, islice

from standinparts.allowances import Allowances
from standinparts.errors import BadEvent, BadEvents
from standinparts.lists import PartsList
from standinparts.rules import Rule
from standinparts.runs import Run, is_event, played, running
from tests import brute
from tests.odd import Agreeing, Unwilling, all_odd_values
from tests.samples import some_book, some_events, some_list, some_orders

EMPTY = Allowances()
SCREWS = Allowances([("screw", "bolt", 0, None), ("nail", "bolt", 3, 5)])
PARTS = PartsList([("x", "bolt", 2, None), ("y", "nut", 1, None)])
PLAINLY = Rule.plainly()
EVENTS = [("come", "bolt", 0), ("come", "screw", 0), ("come", "nut", 1), ("order", 2), ("ask", "x", 2)]
WRONG_EVENTS = [
    (), ("come",), ("come", "bolt"), ("come", "bolt", 0, 0), ["come", "bolt", 0], ("come", "Bolt", 0), ("come", "", 0),
    ("come", "ninewords", 0), ("come", "bolt", -1), ("come", "bolt", 10000), ("come", "bolt", True),
    ("come", "bolt", None), ("come", "bolt", "0"), ("come", 5, 0), ("come", 0), ("ask", "x"), ("ask", "z", 0),
    ("ask", "bolt", 0), ("ask", "X", 0), ("ask", "x", 0, 0), ["ask", "x", 0], ("ask", "x", False), ("ask", ["x"], 0),
    ("ask", ("x",), 0), ("ask", 0), ("ask", "x", 1.0), ("order",), ("order", "x", 0), ("order", 0, 0), ["order", 0],
    ("order", True), ("order", -1), ("order", 10000), ("order", "0"), ("take", "x", 0), ("Come", "bolt", 0),
    (b"order", 0), ("orders", 0), (0, 0), (None, "x", 0), (("order",), 0), (["order"], 0), "order", {"order": 0}]


def odd_events():
    """Values that are no events, with values of other kinds in every place of one."""
    values = WRONG_EVENTS + all_odd_values()
    for odd in all_odd_values() + [Agreeing(), Unwilling()]:
        values.extend([(odd, "x", 0), (odd, 0), ("come", odd, 0), ("ask", odd, 0), ("come", "bolt", odd),
                       ("ask", "x", odd), ("order", odd), (odd,)])
    return values


class IsEventTest(unittest.TestCase):
    def test_events(self):
        for event in EVENTS + [("come", "abcdefgh", 9999), ("come", "zz", 0), ("ask", "y", 9999), ("order", 9999)]:
            self.assertIs(is_event(PARTS, event), True)

    def test_no_events(self):
        for value in odd_events():
            self.assertIs(is_event(PARTS, value), False)

    def test_by_name(self):
        self.assertIs(is_event(value=("ask", "y", 0), parts_list=PARTS), True)
        self.assertIs(is_event(PartsList([("x", "bolt", 1, None)]), ("ask", "y", 0)), False)


class RunTest(unittest.TestCase):
    def test_answers(self):
        run = Run(PARTS, SCREWS, PLAINLY)
        self.assertEqual([run.do(event) for event in EVENTS],
                         [True, True, True, (("x", ("bolt", "screw")), ("y", ("nut",))), None])
        self.assertEqual([run.units(), len(run)], [[], 5])

    def test_comings(self):
        run = Run(PARTS, EMPTY, PLAINLY)
        self.assertEqual([run.units(), len(run)], [[], 0])
        for event in [("come", "screw", 0), ("come", "bolt", 1), ("come", "bolt", 1), ("come", "aa", 1),
                      ("come", "bolt", 9999)]:
            self.assertIs(run.do(event), True)
        self.assertEqual(run.units(), [("aa", 1), ("bolt", 1), ("bolt", 1), ("bolt", 9999), ("screw", 0)])
        run.units().clear()
        self.assertEqual([len(run.units()), len(run)], [5, 5])

    def test_asks(self):
        run = Run(PARTS, SCREWS, PLAINLY)
        for part in ("screw", "nail", "bolt", "nut"):
            run.do(("come", part, 2))
        self.assertEqual([run.do(("ask", "x", day)) for day in (2, 2, 2, 3, 3)], ["bolt", "screw", None, "nail", None])
        self.assertEqual([run.do(("ask", "y", 3)), run.do(("ask", "y", 3))], ["nut", None])
        self.assertEqual([run.units(), len(run)], [[], 11])

    def test_days_of_allowances(self):
        for day, told in [(2, None), (3, "nail"), (5, "nail"), (6, None)]:
            run = Run(PARTS, SCREWS, PLAINLY)
            run.do(("come", "nail", 0))
            self.assertEqual(run.do(("ask", "x", day)), told)

    def test_through(self):
        rows = [("screw", "bolt", 0, None), ("nail", "screw", 0, None)]
        for through, told in [(False, None), (True, "nail")]:
            run = Run(PARTS, Allowances(rows, through=through), PLAINLY)
            run.do(("come", "nail", 0))
            self.assertEqual(run.do(("ask", "x", 0)), told)

    def test_the_unit_with_the_least_day_goes(self):
        for kind in ("row", "plain", "eldest"):
            run = Run(PARTS, EMPTY, Rule(kind))
            for day in (0, 0, 2, 5):
                run.do(("come", "bolt", day))
            self.assertEqual([run.do(("ask", "x", 5)), run.do(("ask", "x", 5)), run.do(("ask", "x", 5))], ["bolt"] * 3)
            self.assertEqual(run.units(), [("bolt", 5)])

    def test_kinds_of_rules(self):
        events = [("come", "screw", 0), ("come", "bolt", 1), ("come", "screw", 1), ("come", "bolt", 2)]
        for rule, told in [(PLAINLY, ["bolt", "bolt", "screw", "screw"]), (Rule("row"), ["bolt", "bolt", "screw"]),
                           (Rule("row", {"x": ("screw",)}), ["screw", "screw", "bolt", "bolt"]),
                           (Rule("row", {"y": ("screw",)}), ["bolt", "bolt", "screw", "screw"]),
                           (Rule("eldest"), ["screw", "bolt", "screw", "bolt"]),
                           (Rule("eldest", {"x": ("screw",)}), ["screw", "screw", "bolt", "bolt"])]:
            run = Run(PARTS, SCREWS, rule)
            for event in events:
                run.do(event)
            self.assertEqual([run.do(("ask", "x", 2)) for _ in told], told)

    def test_orders_take_place_by_place(self):
        parts = PartsList([("y", "screw", 1, None), ("x", "bolt", 3, None)])
        events = [("come", part, 0) for part in ("screw", "bolt", "screw", "bolt", "screw")]
        run = Run(parts, SCREWS, Rule("row", {"x": ("screw", "bolt")}))
        for event in events:
            run.do(event)
        self.assertEqual(run.do(("order", 0)), (("y", ("screw",)), ("x", ("screw", "screw", "bolt"))))
        self.assertEqual(run.units(), [("bolt", 0)])
        run = Run(parts, SCREWS, Rule("plain", {"x": ("screw", "bolt")}))
        for event in events:
            run.do(event)
        self.assertEqual(run.do(("order", 0)), (("y", ("screw",)), ("x", ("bolt", "bolt", "screw"))))

    def test_places_that_ask_for_the_same_parts(self):
        # The first place takes what the second one needs, though another part would do.
        parts = PartsList([("x", "bolt", 1, None), ("y", "screw", 1, None)])
        events = [("come", "bolt", 0), ("come", "screw", 0)]
        for rule, told in [(Rule("row", {"x": ("screw",)}), None), (PLAINLY, (("x", ("bolt",)), ("y", ("screw",))))]:
            run = Run(parts, SCREWS, rule)
            for event in events:
                run.do(event)
            self.assertEqual(run.do(("order", 0)), told)

    def test_refused_orders_give_all_back(self):
        run = Run(PARTS, SCREWS, PLAINLY)
        for part, day in [("bolt", 0), ("screw", 1), ("bolt", 1)]:
            run.do(("come", part, day))
        held = run.units()
        self.assertIsNone(run.do(("order", 2)))
        self.assertEqual([run.units(), len(run)], [held, 4])
        run.do(("come", "nut", 2))
        self.assertEqual(run.do(("order", 2)), (("x", ("bolt", "bolt")), ("y", ("nut",))))
        self.assertIsNone(run.do(("order", 2)))
        self.assertEqual([run.units(), len(run)], [[("screw", 1)], 7])

    def test_shares_are_not_looked_at(self):
        parts = PartsList([("x", "bolt", 2, 0)])
        events = [("come", "screw", 0), ("come", "screw", 0), ("order", 0)]
        self.assertEqual(played(parts, SCREWS, PLAINLY, events), [True, True, (("x", ("screw", "screw")),)])

    def test_bad_events_change_nothing(self):
        run = Run(PARTS, SCREWS, PLAINLY)
        for event in [("come", "bolt", 3), ("come", "nut", 4), ("ask", "y", 4)]:
            run.do(event)
        for value in odd_events() + [("come", "bolt", 3), ("ask", "x", 3), ("order", 0), ("order", 3)]:
            with self.assertRaises(BadEvent) as caught:
                run.do(value)
            self.assertIs(caught.exception.event, value)
            self.assertEqual([run.units(), len(run)], [[("bolt", 3)], 3])
        self.assertEqual(run.do(("ask", "x", 4)), "bolt")

    def test_days_behind_refused_events(self):
        run = Run(PARTS, SCREWS, PLAINLY)
        self.assertIsNone(run.do(("ask", "x", 5)))
        with self.assertRaises(BadEvent):
            run.do(("come", "bolt", 4))
        self.assertIs(run.do(("come", "bolt", 5)), True)
        self.assertIsNone(run.do(("order", 9999)))
        with self.assertRaises(BadEvent):
            run.do(("order", 9998))
        self.assertEqual(len(run), 3)

    def test_copies_go_on_by_themselves(self):
        run = Run(PARTS, SCREWS, PLAINLY)
        run.do(("come", "bolt", 3))
        other = run.copy()
        self.assertEqual([other.units(), len(other)], [[("bolt", 3)], 1])
        self.assertEqual(other.do(("ask", "x", 7)), "bolt")
        other.do(("come", "nut", 8))
        self.assertEqual([run.units(), len(run), other.units(), len(other)], [[("bolt", 3)], 1, [("nut", 8)], 3])
        run.do(("come", "bolt", 4))
        with self.assertRaises(BadEvent):
            other.do(("come", "bolt", 4))
        self.assertEqual(other.units(), [("nut", 8)])

    def test_by_name(self):
        run = Run(rule=PLAINLY, allowances=SCREWS, parts_list=PARTS)
        self.assertIs(run.do(event=("come", "bolt", 0)), True)

    def test_against_the_definition(self):
        chance = random.Random(91)
        kinds = set()
        for k in range(400):
            book, parts = some_book(chance, "abcd", 6), some_list(chance, "abcd", 3, 2)
            kind, orders = ("row", "plain", "eldest")[k % 3], some_orders(chance, parts.words() + ["q"], "abcd")
            events = some_events(chance, parts, "abcd", 16, 2)
            run, told = Run(parts, book, Rule(kind, orders)), []
            for at, event in enumerate(events):
                told.append(run.do(event))
                right, units = brute.answers(parts, book, kind, orders, events[:at + 1])
                self.assertEqual([told, run.units(), len(run)], [right, units, at + 1])
                kinds.add((event[0], told[-1] is None))
            rule = Rule(kind, orders)
            self.assertEqual(played(parts, book, rule, events), told)
            self.assertEqual(list(running(parts, book, rule, events)), told)
        self.assertEqual(len(kinds), 5)

    def test_events_take_no_long_time(self):
        begin = time.process_time()
        run = Run(PartsList([("x", "bolt", 999, None)]), SCREWS, Rule("eldest", {"x": ("screw",)}))
        for day in range(1000):
            run.do(("come", "bolt" if day % 2 else "screw", day))
        self.assertEqual(len(run.do(("order", 1000))[0][1]), 999)
        self.assertEqual(run.units(), [("bolt", 999)])
        self.assertLess(time.process_time() - begin, 20)


class PlayedTest(unittest.TestCase):
    def test_answers(self):
        told = [True, True, True, (("x", ("bolt", "screw")), ("y", ("nut",))), None]
        for events in [EVENTS, tuple(EVENTS)]:
            self.assertEqual(played(PARTS, SCREWS, PLAINLY, events), told)
        self.assertEqual(played(PARTS, SCREWS, PLAINLY, []), [])
        self.assertEqual(played(events=EVENTS, rule=PLAINLY, allowances=SCREWS, parts_list=PARTS), told)

    def test_nothing_is_kept_or_changed(self):
        events = list(EVENTS)
        first = played(PARTS, SCREWS, PLAINLY, events)
        second = played(PARTS, SCREWS, PLAINLY, events)
        first.clear()
        self.assertEqual([len(second), events], [5, EVENTS])

    def test_bad_events(self):
        for value in odd_events() + [("come", "bolt", 1), ("order", 0)]:
            for ahead, behind in [([("come", "bolt", 2)], []), (EVENTS, [None]), (EVENTS[3:], EVENTS)]:
                with self.assertRaises(BadEvents) as caught:
                    played(PARTS, SCREWS, PLAINLY, [*ahead, value, *behind])
                self.assertEqual(caught.exception.index, len(ahead))
        with self.assertRaises(BadEvents) as caught:
            played(PARTS, SCREWS, PLAINLY, [None])
        self.assertEqual(caught.exception.index, 0)


class RunningTest(unittest.TestCase):
    def test_over_all_kinds_of_iterables(self):
        told = played(PARTS, SCREWS, PLAINLY, EVENTS)
        for events in [EVENTS, tuple(EVENTS), iter(EVENTS), (event for event in EVENTS), dict.fromkeys(EVENTS)]:
            self.assertEqual(list(running(PARTS, SCREWS, PLAINLY, events)), told)
        self.assertEqual(list(running(PARTS, SCREWS, PLAINLY, [])), [])
        self.assertEqual(list(running(events=EVENTS, rule=PLAINLY, allowances=SCREWS, parts_list=PARTS)), told)

    def test_walked_in_part(self):
        asked = []

        def events():
            for day in count():
                asked.append(day)
                yield ("come", "bolt", day) if day % 2 == 0 else ("ask", "x", day)

        answers = running(PARTS, SCREWS, PLAINLY, events())
        self.assertEqual(asked, [])
        self.assertEqual([next(answers), asked], [True, [0]])
        self.assertEqual([next(answers), asked], ["bolt", [0, 1]])
        self.assertEqual(list(islice(answers, 4)), [True, "bolt", True, "bolt"])
        self.assertEqual(asked, [0, 1, 2, 3, 4, 5])

    def test_two_side_by_side(self):
        one, other = running(PARTS, SCREWS, PLAINLY, EVENTS), running(PARTS, SCREWS, PLAINLY, EVENTS)
        told = [(next(one), next(other)) for _ in EVENTS]
        self.assertEqual(told, [(answer, answer) for answer in played(PARTS, SCREWS, PLAINLY, EVENTS)])
        self.assertEqual([next(one, "end"), next(other, "end")], ["end", "end"])

    def test_bad_events_behind_the_answers_ahead(self):
        for value in odd_events() + [("come", "bolt", 1), ("order", 0)]:
            answers = running(PARTS, SCREWS, PLAINLY, [*EVENTS, value, ("come", "bolt", 9)])
            self.assertEqual([next(answers) for _ in EVENTS], played(PARTS, SCREWS, PLAINLY, EVENTS))
            with self.assertRaises(BadEvent) as caught:
                next(answers)
            self.assertIs(caught.exception.event, value)
            self.assertEqual(list(answers), [])


if __name__ == "__main__":
    unittest.main()
