"""Serving: what could be served, and what is refused though it could be."""

import random
import time
import unittest
from itertools import combinations

from standinparts.allowances import Allowances
from standinparts.errors import BadEvents, BadShare
from standinparts.lists import PartsList
from standinparts.rules import Rule
from standinparts.runs import played
from standinparts.serving import could_serve, first_wrong
from tests import brute
from tests.samples import some_book, some_events, some_list, some_orders, some_rush, without_shares
from tests.test_runs import odd_events

EMPTY = Allowances()
SCREWS = Allowances([("screw", "bolt", 0, None)])
PARTS = PartsList([("x", "bolt", 1, None), ("y", "screw", 1, None)])
PLAINLY = Rule.plainly()
GREEDY = Rule("row", {"x": ("screw", "bolt")})
EVENTS = [("come", "bolt", 0), ("come", "screw", 0), ("ask", "x", 1), ("ask", "y", 1)]


class ErrorsTest(unittest.TestCase):
    def calls(self, parts, events):
        """Both calls, as functions without arguments."""
        return [lambda: could_serve(parts, SCREWS, events, []), lambda: first_wrong(parts, SCREWS, PLAINLY, events)]

    def test_shares_ahead_of_events(self):
        for places, word in [([("x", "bolt", 1, 1)], "x"), ([("x", "bolt", 1, 0), ("y", "bolt", 1, 1)], "x"),
                             ([("y", "nut", 1, None), ("z", "bolt", 2, 2), ("x", "bolt", 2, 1)], "z")]:
            for events in [[], [None], [("come", "bolt", 0)]]:
                for call in self.calls(PartsList(places), events):
                    with self.assertRaises(BadShare) as caught:
                        call()
                    self.assertEqual(caught.exception.word, word)

    def test_bad_events(self):
        parts = PartsList([("x", "bolt", 2, None), ("y", "nut", 1, None)])
        ahead = [("come", "bolt", 0), ("ask", "x", 2), ("order", 2)]
        for value in odd_events() + [("come", "bolt", 1), ("order", 0), ("ask", "y", 1)]:
            for events, index in [([*ahead, value], 3), ([*ahead, value, None], 3)]:
                for call in self.calls(parts, events):
                    with self.assertRaises(BadEvents) as caught:
                        call()
                    self.assertEqual(caught.exception.index, index)
        for call in self.calls(parts, [None]):
            with self.assertRaises(BadEvents) as caught:
                call()
            self.assertEqual(caught.exception.index, 0)

    def test_bad_events_behind_what_is_wrong(self):
        self.assertEqual(first_wrong(PARTS, SCREWS, GREEDY, EVENTS), 3)
        with self.assertRaises(BadEvents) as caught:
            first_wrong(PARTS, SCREWS, GREEDY, [*EVENTS, ("order", 0)])
        self.assertEqual(caught.exception.index, 4)
        with self.assertRaises(BadEvents):
            could_serve(PARTS, SCREWS, [("ask", "x", 1), ("order", 0)], [0])

    def test_by_name_and_nothing_changed(self):
        events, served = list(EVENTS), [2, 3]
        self.assertIs(could_serve(served=served, events=events, allowances=SCREWS, parts_list=PARTS), True)
        self.assertEqual(first_wrong(events=events, rule=GREEDY, allowances=SCREWS, parts_list=PARTS), 3)
        self.assertEqual([events, served], [EVENTS, [2, 3]])
        self.assertIs(could_serve(PARTS, SCREWS, tuple(events), tuple(served)), True)
        self.assertEqual(first_wrong(PARTS, SCREWS, GREEDY, tuple(events)), 3)


class CouldServeTest(unittest.TestCase):
    def test_nothing_served(self):
        for events in [[], EVENTS, [("ask", "x", 0)]]:
            self.assertIs(could_serve(PARTS, SCREWS, events, []), True)

    def test_a_unit_of_its_own(self):
        events = [*EVENTS, ("ask", "x", 1), ("ask", "y", 9999)]
        for served, truth in [([2], True), ([3], True), ([4], True), ([2, 3], True), ([2, 4], True), ([3, 5], False),
                              ([3, 4], True), ([2, 3, 4], False), ([2, 3, 4, 5], False)]:
            self.assertIs(could_serve(PARTS, SCREWS, events, served), truth)

    def test_units_that_come_behind(self):
        events = [("ask", "x", 0), ("come", "bolt", 0), ("ask", "x", 0), ("come", "screw", 0), ("order", 0)]
        for served, truth in [([0], False), ([2], True), ([0, 2], False), ([4], True), ([2, 4], False)]:
            self.assertIs(could_serve(PARTS, SCREWS, events, served), truth)

    def test_candidates_of_the_day(self):
        book = Allowances([("nail", "bolt", 3, 5)])
        for day, truth in [(2, False), (3, True), (5, True), (6, False)]:
            events = [("come", "nail", 0), ("ask", "x", day)]
            self.assertIs(could_serve(PARTS, book, events, [1]), truth)

    def test_orders(self):
        parts = PartsList([("x", "bolt", 2, None), ("y", "screw", 1, None)])
        for comings, truth in [("bbs", True), ("bss", True), ("sss", True), ("bb", False), ("bs", False),
                               ("bbb", False), ("bsn", False), ("bbbsss", True)]:
            names = {"b": "bolt", "s": "screw", "n": "nut"}
            events = [*[("come", names[letter], 0) for letter in comings], ("order", 0)]
            self.assertIs(could_serve(parts, SCREWS, events, [len(comings)]), truth)

    def test_units_that_must_change(self):
        # Served one by one in any order, each unit has to move on for the last one.
        letters = "abcdefgh"
        book = Allowances([(letters[k + 1], letters[k], 0, None) for k in range(7)])
        parts = PartsList([(letter, letter, 1, None) for letter in letters[:7]])
        for missing in letters:
            events = [("come", letter, 0) for letter in letters if letter != missing]
            events += [("ask", letter, 0) for letter in "gfedcba"]
            self.assertIs(could_serve(parts, book, events, list(range(7, 14))), True)
            self.assertIs(could_serve(parts, book, [*events, ("ask", "a", 0)], list(range(7, 15))), False)

    def test_against_all_ways(self):
        chance = random.Random(101)
        truths = []
        for _ in range(250):
            book, parts = some_book(chance, "abc", 5), without_shares(some_list(chance, "abc", 2, 2))
            events = some_events(chance, parts, "abc", 9, 2)
            asked = [k for k, event in enumerate(events) if event[0] != "come"]
            for size in range(min(len(asked), 4) + 1):
                for served in combinations(asked, size):
                    truth = could_serve(parts, book, events, list(served))
                    self.assertIs(truth, brute.could_serve(parts, book, events, served))
                    truths.append(truth)
        self.assertGreater(min(truths.count(True), truths.count(False)), 300)


class FirstWrongTest(unittest.TestCase):
    def test_right_and_wrong(self):
        self.assertIsNone(first_wrong(PARTS, SCREWS, PLAINLY, EVENTS))
        self.assertEqual(first_wrong(PARTS, SCREWS, GREEDY, EVENTS), 3)
        self.assertEqual(first_wrong(PARTS, SCREWS, GREEDY, [*EVENTS, ("ask", "y", 1)]), 3)

    def test_no_events(self):
        self.assertIsNone(first_wrong(PARTS, SCREWS, GREEDY, []))
        self.assertIsNone(first_wrong(PARTS, SCREWS, GREEDY, [("come", "bolt", 9999)]))

    def test_refused_because_there_is_none(self):
        events = [("ask", "x", 0), ("come", "bolt", 0), ("ask", "y", 0), ("order", 0), ("ask", "x", 0), ("ask", "x", 0)]
        for rule in (PLAINLY, GREEDY):
            self.assertIsNone(first_wrong(PARTS, SCREWS, rule, events))

    def test_what_was_refused_ahead_takes_nothing(self):
        events = [("come", "screw", 0), ("order", 0), ("ask", "y", 0), ("come", "bolt", 0), ("ask", "x", 0)]
        self.assertEqual(played(PARTS, SCREWS, GREEDY, events), [True, None, "screw", True, "bolt"])
        self.assertIsNone(first_wrong(PARTS, SCREWS, GREEDY, events))

    def test_an_order_that_could_be_served(self):
        events = [("come", "bolt", 0), ("come", "screw", 0), ("order", 0)]
        self.assertEqual(first_wrong(PARTS, SCREWS, GREEDY, events), 2)
        self.assertIsNone(first_wrong(PARTS, SCREWS, PLAINLY, events))

    def test_kinds_of_rules(self):
        book = Allowances([("screw", "bolt", 0, None), ("nail", "bolt", 0, 4)])
        events = [("come", "screw", 0), ("come", "nail", 1), ("ask", "x", 2), ("ask", "x", 5)]
        for rule, told in [(Rule("eldest"), 3), (Rule("row"), None), (Rule("row", {"x": ("screw",)}), 3),
                           (PLAINLY, None)]:
            self.assertEqual(first_wrong(PARTS, book, rule, events), told)

    def test_against_all_ways(self):
        chance = random.Random(102)
        told = []
        for k in range(2000):
            book, parts = some_book(chance, "abc", 8), without_shares(some_list(chance, "abc", 3, 2))
            kind, orders = ("row", "plain", "eldest")[k % 3], some_orders(chance, parts.words(), "abc")
            events = some_rush(chance, parts, "abc", 4, 5, 2) if k % 2 else some_events(chance, parts, "abc", 12, 2)
            index = first_wrong(parts, book, Rule(kind, orders), events)
            self.assertEqual(index, brute.first_wrong(parts, book, kind, orders, events))
            told.append((kind, index is None))
        self.assertGreater(min(told.count(pair) for pair in set(told)), 12)
        self.assertEqual(len(set(told)), 6)

    def test_what_is_answered_could_be_served(self):
        chance = random.Random(103)
        for _ in range(100):
            book, parts = some_book(chance, "abcdef", 9), without_shares(some_list(chance, "abcdef", 4, 3))
            events = some_events(chance, parts, "abcdef", 40, 2)
            rule = Rule("row", some_orders(chance, parts.words(), "abcdef"))
            answers = played(parts, book, rule, events)
            served = [k for k, event in enumerate(events) if event[0] != "come" and answers[k] is not None]
            self.assertIs(could_serve(parts, book, events, served), True)
            index = first_wrong(parts, book, rule, events)
            refused = [k for k, answer in enumerate(answers) if answer is None]
            for k in refused:
                could = could_serve(parts, book, events, [at for at in served if at < k] + [k])
                if index is None or k <= index:
                    self.assertIs(could, k == index)

    def test_calls_take_no_long_time(self):
        chance = random.Random(104)
        begin = time.process_time()
        for _ in range(200):
            book, parts = some_book(chance, "abc", 5), without_shares(some_list(chance, "abc", 3, 9))
            events = some_events(chance, parts, "abc", 16, 2)
            first_wrong(parts, book, PLAINLY, events)
        events = [("come", "ab"[k % 2], k) for k in range(150)] + [("ask", "x", 200), ("order", 200)] * 80
        parts = PartsList([("x", "a", 1, None), ("y", "b", 2, None)])
        first_wrong(parts, Allowances([("b", "a", 0, None)]), Rule("eldest"), events)
        self.assertLess(time.process_time() - begin, 20)


if __name__ == "__main__":
    unittest.main()
