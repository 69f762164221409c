"""Judging rules: uses from a date on, faults, events that show them, right rules and rings."""

import random
import time
import unittest
from itertools import permutations

from standinparts.allowances import Allowances
from standinparts.errors import BadShare
from standinparts.judging import fault, faulty_events, is_right, right_rule, ring, uses_from
from standinparts.lists import PartsList
from standinparts.rules import Rule
from standinparts.runs import played
from standinparts.serving import could_serve, first_wrong
from tests import brute
from tests.samples import (early_book, plain_list, put_off, renamed_book, renamed_list, some_book, some_events,
                           some_rule, some_rush)

EMPTY = Allowances()
PLAINLY = Rule.plainly()
PARTS = PartsList([("x", "b", 1, None), ("y", "a", 1, None)])
BOOK = Allowances([("a", "b", 0, None)])
# For x each of b and c has a use that the other one has not.
CROSSED = PartsList([("x", "b", 1, None), ("y", "b", 1, None), ("z", "c", 1, None)])
CROSS_BOOK = Allowances([("c", "b", 0, 0), ("b", "c", 5, 5), ("c", "b", 5, 5)])


def plain(*rows):
    """A list of places of one unit: (word, plain part)."""
    return PartsList([(*row, 1, None) for row in rows])


class ErrorsTest(unittest.TestCase):
    def calls(self):
        """All functions with their arguments behind the allowances."""
        return [(uses_from, ("a", 0)), (fault, (PLAINLY,)), (faulty_events, (PLAINLY,)), (is_right, (PLAINLY,)),
                (right_rule, ()), (ring, ())]

    def test_shares(self):
        for call, more in self.calls():
            for places, word in [([("x", "b", 1, 1)], "x"), ([("x", "b", 2, 0)], "x"),
                                 ([("y", "a", 1, None), ("z", "b", 2, 2), ("x", "b", 2, 1)], "z")]:
                for book in (EMPTY, BOOK):
                    with self.assertRaises(BadShare) as caught:
                        call(PartsList(places), book, *more)
                    self.assertEqual(caught.exception.word, word)

    def test_by_name(self):
        given = {"allowances": BOOK, "parts_list": PARTS}
        self.assertEqual(uses_from(date=3, part="b", **given), [("x", 3)])
        greedy = Rule("row", {"x": ("a", "b")})
        self.assertEqual(fault(rule=greedy, **given), ("x", 0, "a", "b", "y", 0))
        self.assertEqual(faulty_events(rule=greedy, **given), faulty_events(PARTS, BOOK, greedy))
        self.assertIs(is_right(rule=greedy, **given), False)
        self.assertEqual(right_rule(**given), Rule("row", {"x": ("b", "a"), "y": ("a",)}))
        self.assertIsNone(ring(**given))

    def test_new_lists_and_nothing_changed(self):
        rows = BOOK.rows()
        for _ in range(2):
            told = uses_from(PARTS, BOOK, "a", 0)
            self.assertEqual(told, [("x", 0), ("y", 0)])
            told.clear()
            events = faulty_events(PARTS, BOOK, Rule("row", {"x": ("a", "b")}))
            self.assertEqual(len(events), 4)
            events.clear()
            word, parts = ring(CROSSED, CROSS_BOOK)
            self.assertEqual(sorted(parts), ["b", "c"])
            parts.clear()
        self.assertEqual([BOOK.rows(), PARTS.words()], [rows, ["x", "y"]])

    def test_lists_and_books_of_tuples(self):
        places, rows = [("x", "b", 1, None), ("y", "a", 1, None)], [("a", "b", 0, None)]
        parts, book = PartsList(places), Allowances(rows)
        places.clear()
        rows.clear()
        self.assertEqual(right_rule(parts, book).order("x"), ("b", "a"))


class UsesFromTest(unittest.TestCase):
    def test_dates_then_places(self):
        parts = plain(("z", "b"), ("x", "a"), ("y", "b"))
        book = Allowances([("a", "b", 5, 9)])
        self.assertEqual(uses_from(parts, book, "a", 0), [("x", 0), ("z", 5), ("x", 5), ("y", 5), ("x", 10)])
        self.assertEqual(uses_from(parts, book, "a", 7), [("z", 7), ("x", 7), ("y", 7), ("x", 10)])
        self.assertEqual(uses_from(parts, book, "b", 9), [("z", 9), ("y", 9), ("z", 10), ("y", 10)])
        self.assertEqual(uses_from(parts, book, "b", 10), [("z", 10), ("y", 10)])
        self.assertEqual(uses_from(parts, book, "c", 0), [])

    def test_edges(self):
        self.assertEqual(uses_from(plain(("x", "a")), EMPTY, "a", 0), [("x", 0)])
        self.assertEqual(uses_from(plain(("x", "a")), EMPTY, "a", 9999), [("x", 9999)])
        book = Allowances([("a", "b", 0, 9999)])
        self.assertEqual(uses_from(plain(("x", "b")), book, "a", 4), [("x", 4)])
        book = Allowances([("a", "b", 9999, 9999), ("a", "b", 0, 9998)])
        self.assertEqual(uses_from(plain(("x", "b")), book, "a", 0), [("x", 0), ("x", 9999)])

    def test_against_all_dates_and_places(self):
        chance = random.Random(201)
        for _ in range(300):
            book, parts = some_book(chance, "abcd", 8), plain_list(chance, "abcd", 3)
            for part in "abcde":
                for date in range(10):
                    self.assertEqual(uses_from(parts, book, part, date), brute.uses_from(parts, book, part, date))


class FaultTest(unittest.TestCase):
    def check_fault(self, parts, book, kind, orders, days):
        """That a rule is judged as all dates tell it, and that its fault is one."""
        rule = Rule(kind, orders)
        found = fault(parts, book, rule)
        self.assertIs(is_right(parts, book, rule), found is None)
        self.assertIs(found is None, brute.is_rule_right(parts, book, kind, orders, days))
        events = faulty_events(parts, book, rule)
        if found is None:
            self.assertIsNone(events)
            return True
        word, date, part, other, later_word, later = found
        self.assertIs(type(found), tuple)
        self.assertTrue({part, other} <= brute.candidates(book, parts[word][1], date))
        self.assertTrue(brute.can_be_preferred(parts, kind, orders, word, date, part, other))
        self.assertIn((later_word, later), brute.uses_from(parts, book, part, date))
        self.assertNotIn((later_word, later), brute.uses_from(parts, book, other, date))
        self.check_events(parts, book, kind, orders, events)
        return False

    def check_events(self, parts, book, kind, orders, events):
        """That the last of four events is refused though it could be served."""
        self.assertIs(type(events), list)
        self.assertEqual(sorted(event[0] for event in events), ["ask", "ask", "come", "come"])
        self.assertEqual(events[-1][0], "ask")
        self.assertTrue(brute.shows_fault(parts, book, kind, orders, events))
        self.assertEqual(first_wrong(parts, book, Rule(kind, orders), events), 3)
        answers = played(parts, book, Rule(kind, orders), events)
        self.assertEqual([answer is None for answer in answers], [False, False, False, True])
        self.assertIs(could_serve(parts, book, events, [2, 3]), True)

    def test_ordinary(self):
        self.assertEqual(fault(PARTS, BOOK, Rule("row", {"x": ("a", "b")})), ("x", 0, "a", "b", "y", 0))
        self.assertEqual(fault(PARTS, BOOK, Rule("row")), ("x", 0, "a", "b", "y", 0))
        self.assertIsNone(fault(PARTS, BOOK, PLAINLY))
        self.assertIsNone(fault(PARTS, BOOK, Rule("row", {"x": ("b",)})))
        self.assertIsNone(fault(PARTS, BOOK, Rule("row", {"x": ("q", "b", "a")})))
        self.assertEqual(fault(PARTS, BOOK, Rule("row", {"y": ("b", "a")})), ("x", 0, "a", "b", "y", 0))

    def test_no_allowances_or_one_place(self):
        for rule in [Rule("row"), PLAINLY, Rule("eldest"), Rule("row", {"x": ("a", "b")})]:
            self.assertIsNone(fault(CROSSED, EMPTY, rule))
            self.assertIsNone(fault(plain(("x", "b")), BOOK, rule))
            self.assertIsNone(faulty_events(plain(("x", "b")), BOOK, rule))
        # With one place a part may still have more later uses than another one.
        book = Allowances([("a", "b", 0, 4), ("c", "b", 0, None)])
        self.assertIsNone(fault(plain(("x", "b")), book, Rule("row")))
        self.assertEqual(fault(plain(("x", "b")), book, Rule("row", {"x": ("b", "a")})), ("x", 0, "b", "a", "x", 5))

    def test_dates_of_the_fault_and_its_use(self):
        parts = plain(("x", "b"), ("y", "a"))
        book = Allowances([("c", "b", 3, 9), ("b", "a", 7, 8)])
        self.assertEqual(fault(parts, book, PLAINLY), ("x", 3, "b", "c", "y", 7))
        self.assertEqual(fault(parts, book, Rule("row", {"x": ("c", "b")})), ("y", 7, "a", "b", "y", 9))
        self.assertEqual(fault(parts, book, Rule("row", {"x": ("c", "b"), "y": ("b",)})), ("y", 7, "b", "a", "x", 7))
        self.assertEqual(faulty_events(parts, book, PLAINLY)[2:], [("ask", "x", 3), ("ask", "y", 7)])
        # The plain part of x is its candidate for ever, c only up to 9.
        parts = plain(("x", "b"))
        self.assertEqual(fault(parts, book, PLAINLY), ("x", 3, "b", "c", "x", 10))

    def test_up_to_the_last_dates(self):
        parts = plain(("x", "b"), ("y", "a"))
        for till in (None, 9999):
            book = Allowances([("c", "b", 9999, till), ("c", "a", 9999, till)])
            self.assertIsNone(fault(parts, book, PLAINLY))
            self.assertEqual(fault(parts, book, Rule("row", {"x": ("c",)})), ("x", 9999, "c", "b", "y", 9999))
            self.assertEqual(faulty_events(parts, book, Rule("row", {"x": ("c",)}))[-1], ("ask", "y", 9999))
        book = Allowances([("c", "b", 0, 9998)])
        self.assertEqual(fault(parts, book, PLAINLY), ("x", 0, "b", "c", "x", 9999))

    def test_eldest(self):
        # From the date 1 on the elder unit may be of any candidate.
        right = Allowances([("c", "b", 0, None)])
        self.assertIsNone(fault(plain(("x", "b")), right, Rule("eldest")))
        self.assertIsNotNone(fault(plain(("x", "b"), ("y", "c")), right, Rule("eldest", {"x": ("b", "c")})))
        # At the date 0 all units are of one day, so that ranks alone are asked.
        day = Allowances([("c", "b", 0, 0)])
        self.assertIsNone(fault(plain(("x", "b")), day, Rule("eldest", {"x": ("c", "b")})))
        self.assertEqual(fault(plain(("x", "b")), day, Rule("eldest", {"x": ("b", "c")})), ("x", 0, "b", "c", "x", 1))
        longer = Allowances([("c", "b", 0, 1)])
        found = fault(plain(("x", "b")), longer, Rule("eldest", {"x": ("c", "b")}))
        self.assertEqual(found, ("x", 1, "b", "c", "x", 2))
        self.assertEqual(faulty_events(plain(("x", "b")), longer, Rule("eldest", {"x": ("c", "b")})),
                         [("come", "b", 0), ("come", "c", 1), ("ask", "x", 1), ("ask", "x", 2)])

    def test_against_all_dates(self):
        chance = random.Random(202)
        truths = []
        for _ in range(900):
            book, parts = some_book(chance, "abc", 6), plain_list(chance, "abc", 3)
            kind, orders = some_rule(chance, parts.words(), "abc")
            truths.append((kind, book.through, self.check_fault(parts, book, kind, orders, range(10))))
        self.assertEqual(len(set(truths)), 12)
        self.assertGreater(min(truths.count(row) for row in set(truths)), 20)

    def test_against_all_rows_of_four_events(self):
        chance = random.Random(203)
        truths = []
        for k in range(90):
            book, parts = early_book(chance, "abc", 4, 1), plain_list(chance, "abc", 2)
            kind, orders = some_rule(chance, parts.words(), "abc", ("row", "plain", "eldest")[k % 3])
            right = is_right(parts, book, Rule(kind, orders))
            shown = any(brute.shows_fault(parts, book, kind, orders, events)
                        for events in brute.small_events(parts, "abc", 2))
            self.assertIs(right, not shown)
            truths.append((kind, right))
        self.assertEqual(len(set(truths)), 6)

    def test_right_rules_refuse_nothing(self):
        chance = random.Random(204)
        right = 0
        for k in range(1500):
            book, parts = some_book(chance, "abc", 5), plain_list(chance, "abc", 3, 2)
            kind, orders = some_rule(chance, parts.words(), "abc")
            if is_right(parts, book, Rule(kind, orders)):
                right += len(book) > 0
                events = some_rush(chance, parts, "abc", 4, 5, 2) if k % 2 else some_events(chance, parts, "abc", 20, 2)
                self.assertIsNone(first_wrong(parts, book, Rule(kind, orders), events))
        self.assertGreater(right, 200)

    def test_calls_take_no_long_time(self):
        chance = random.Random(205)
        begin = time.process_time()
        for _ in range(400):
            book, parts = some_book(chance, "abcdef", 6), plain_list(chance, "abcdef", 3)
            kind, orders = some_rule(chance, parts.words(), "abcdef")
            fault(parts, book, Rule(kind, orders))
            faulty_events(parts, book, Rule(kind, orders))
            right_rule(parts, book)
            ring(parts, book)
        for kind in ("row", "plain", "eldest"):
            letters = "abcdefghijkl"
            book = Allowances([(letters[k], letters[k - 1], 3 * k, 3 * k + 40) for k in range(12)], through=True)
            parts = plain(*[("p" + letter, letter) for letter in letters])
            is_right(parts, book, Rule(kind))
            right_rule(parts, book)
            ring(parts, book)
        self.assertLess(time.process_time() - begin, 10)


class RightRuleTest(unittest.TestCase):
    def right_orders(self, parts, book, word):
        """All right orders of a place, ascending, by trying all."""
        found = []
        for order in permutations(sorted(brute.ever_candidates(parts, book, word))):
            pairs = [(one, other) for k, one in enumerate(order) for other in order[k + 1:]]
            if not any(brute.must_be_ahead(parts, book, word, other, one, range(9)) for one, other in pairs):
                found.append(order)
        return found

    def check(self, parts, book):
        """That there is a right rule just if each place has a right order, and a ring otherwise."""
        orders = {word: self.right_orders(parts, book, word) for word in parts.words()}
        rule, told = right_rule(parts, book), ring(parts, book)
        if all(orders.values()):
            # Of several, at each step the part that is first by name: that is the least tuple.
            self.assertEqual(rule, Rule("row", {word: orders[word][0] for word in orders}))
            self.assertTrue(brute.is_rule_right(parts, book, "row", {word: orders[word][0] for word in orders},
                                                range(9)))
            self.assertIs(is_right(parts, book, rule), True)
            self.assertIsNone(told)
            return True
        self.assertIsNone(rule)
        word, round_ = told
        self.assertEqual(orders[word], [])
        self.assertIs(type(told), tuple)
        self.assertIs(type(round_), list)
        self.assertEqual(len(set(round_)), len(round_))
        self.assertGreaterEqual(len(round_), 2)
        for one, other in zip(round_, round_[1:] + round_[:1]):
            self.assertTrue(brute.must_be_ahead(parts, book, word, one, other, range(9)))
        return False

    def test_ordinary(self):
        self.assertEqual(right_rule(PARTS, BOOK), Rule("row", {"x": ("b", "a"), "y": ("a",)}))
        self.assertEqual(right_rule(CROSSED, EMPTY), Rule("row", {"x": ("b",), "y": ("b",), "z": ("c",)}))

    def test_first_by_name(self):
        book = Allowances([("d", "b", 0, None), ("a", "b", 0, None), ("c", "b", 0, None)])
        self.assertEqual(right_rule(plain(("x", "b")), book).order("x"), ("a", "b", "c", "d"))
        self.assertEqual(right_rule(plain(("x", "b"), ("y", "a")), book).order("x"), ("b", "c", "d", "a"))
        self.assertEqual(right_rule(plain(("x", "b"), ("y", "c")), book).order("x"), ("a", "b", "d", "c"))

    def test_parts_that_are_candidates_at_some_date(self):
        book = Allowances([("a", "b", 3, 4), ("c", "b", 9999, None)])
        self.assertEqual(right_rule(plain(("x", "b")), book).order("x"), ("a", "b", "c"))
        book = Allowances([("d", "b", 3, 4), ("c", "d", 4, 4)], through=True)
        self.assertEqual(right_rule(plain(("x", "b")), book).order("x"), ("c", "d", "b"))

    def test_ring(self):
        parts = plain(("x", "a"), ("y", "b"), ("z", "c"))
        rows = [("b", "a", 0, None), ("c", "b", 0, None)]
        self.assertIsNone(ring(parts, Allowances(rows, through=True)))
        self.assertEqual(ring(parts, Allowances(rows))[0], "y")
        # b and c are alike in all their uses, but from 4 on a alone fits at x.
        book = Allowances([("b", "a", 0, 3), ("c", "a", 0, 3), ("c", "b", 0, None), ("b", "c", 0, None)])
        self.assertEqual((ring(parts, book)[0], sorted(ring(parts, book)[1])), ("x", ["a", "b"]))
        parts = plain(("x", "a"), ("y", "b"))
        book = Allowances([("b", "a", 0, 3)])
        # From 4 on a fits at x and b at y alone.
        self.assertIn(ring(parts, book), [("x", ["a", "b"]), ("x", ["b", "a"])])
        self.assertIsNone(right_rule(parts, book))

    def test_against_all_orders(self):
        chance = random.Random(206)
        truths = []
        for _ in range(900):
            book, parts = some_book(chance, "abcd", 6), plain_list(chance, "abcd", 3)
            truths.append(self.check(parts, book))
        self.assertGreater(min(truths.count(True), truths.count(False)), 100)

    def test_no_rule_is_right_where_there_is_a_ring(self):
        chance = random.Random(207)
        for _ in range(300):
            book, parts = some_book(chance, "abc", 5), plain_list(chance, "abc", 2)
            if ring(parts, book) is not None:
                for _ in range(20):
                    _, orders = some_rule(chance, parts.words(), "abc")
                    self.assertIs(is_right(parts, book, Rule("row", orders)), False)


class NamesAndDatesTest(unittest.TestCase):
    def test_other_names(self):
        chance = random.Random(208)
        names, words = {"a": "bolt", "b": "nail", "c": "nut", "q": "zz"}, {"x": "m", "y": "k", "z": "l", "none": "no"}
        for _ in range(300):
            book, parts = some_book(chance, "abc", 6), plain_list(chance, "abc", 3)
            kind, orders = some_rule(chance, parts.words(), "abc")
            rule = Rule(kind, orders)
            new = Rule(kind, {words[word]: tuple(names[part] for part in order) for word, order in orders.items()})
            new_book, new_parts = renamed_book(book, names), renamed_list(parts, names, words)
            both = {**names, **words, "come": "come", "ask": "ask"}
            found = fault(parts, book, rule)
            told = None if found is None else tuple(both.get(name, name) for name in found)
            self.assertEqual(fault(new_parts, new_book, new), told)
            events = faulty_events(parts, book, rule)
            told = None if events is None else [tuple(both.get(name, name) for name in event) for event in events]
            self.assertEqual(faulty_events(new_parts, new_book, new), told)
            self.assertEqual(uses_from(new_parts, new_book, "nail", 2),
                             [(words[word], day) for word, day in uses_from(parts, book, "b", 2)])
            told = ring(parts, book)
            if told is not None:
                told = (words[told[0]], [names[part] for part in told[1]])
            self.assertEqual(ring(new_parts, new_book), told)
            if told is None:
                for word in parts.words():
                    self.assertEqual(right_rule(new_parts, new_book).order(words[word]),
                                     tuple(names[part] for part in right_rule(parts, book).order(word)))

    def test_dates_put_off(self):
        chance = random.Random(209)
        for _ in range(300):
            book, parts = put_off(some_book(chance, "abc", 6), 1), plain_list(chance, "abc", 3)
            kind, orders = some_rule(chance, parts.words(), "abc")
            rule, days = Rule(kind, orders), chance.choice([1, 7, 9000])
            late = put_off(book, days)
            found = fault(parts, book, rule)
            if found is not None:
                found = (found[0], found[1] + days, *found[2:5], found[5] + days)
                events = [(*event[:-1], event[-1] + days) for event in faulty_events(parts, book, rule)]
                self.assertEqual(faulty_events(parts, late, rule), events)
            self.assertEqual(fault(parts, late, rule), found)
            self.assertEqual(uses_from(parts, late, "a", 2 + days),
                             [(word, day + days) for word, day in uses_from(parts, book, "a", 2)])
            self.assertEqual(right_rule(parts, late), right_rule(parts, book))
            self.assertEqual(ring(parts, late), ring(parts, book))


class ExampleTest(unittest.TestCase):
    def test_example(self):
        parts = PartsList([('x', 'b', 1, None), ('y', 'a', 1, None)])
        book = Allowances([('a', 'b', 0, None)])
        self.assertEqual([is_right(parts, book, Rule('row', {'x': ('a', 'b')})), is_right(parts, book, Rule('plain'))],
                         [False, True])
        self.assertEqual(right_rule(parts, book).order('x'), ('b', 'a'))


if __name__ == "__main__":
    unittest.main()
