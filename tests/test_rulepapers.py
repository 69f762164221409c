"""Papers of rules, held row by row against the definitions."""

import random
import time
import unittest

from standinparts.allowances import Allowances
from standinparts.errors import BadShare
from standinparts.judging import is_right, right_rule, ring
from standinparts.lists import PartsList
from standinparts.rulepapers import no_rule_paper, rule_paper
from standinparts.rules import Rule
from tests import brute, papers
from tests.samples import plain_list, put_off, renamed_book, renamed_list, some_book, some_rule

EMPTY = Allowances()
BOOK = Allowances([("a", "b", 0, None)])
PARTS = PartsList([("x", "b", 1, None), ("y", "a", 1, None)])
PLAINLY = Rule.plainly()
GREEDY = Rule("row", {"x": ("a", "b")})
# From 4 on each of a and b has a use that the other one has not.
RINGED = Allowances([("b", "a", 0, 3)])
RING_PARTS = PartsList([("x", "a", 1, None), ("y", "b", 1, None)])


class ErrorsTest(unittest.TestCase):
    def test_shares(self):
        for places, word in [([("x", "b", 1, 1)], "x"), ([("y", "a", 1, None), ("z", "b", 2, 0)], "z")]:
            for book in (EMPTY, BOOK):
                with self.assertRaises(BadShare) as caught:
                    rule_paper(PartsList(places), book, PLAINLY)
                self.assertEqual(caught.exception.word, word)
                with self.assertRaises(BadShare) as caught:
                    no_rule_paper(PartsList(places), book)
                self.assertEqual(caught.exception.word, word)

    def test_by_name(self):
        self.assertEqual(rule_paper(rule=GREEDY, allowances=BOOK, parts_list=PARTS), rule_paper(PARTS, BOOK, GREEDY))
        self.assertEqual(no_rule_paper(allowances=RINGED, parts_list=RING_PARTS), no_rule_paper(RING_PARTS, RINGED))

    def test_told_lists_are_new(self):
        for rule, size in [(GREEDY, 3), (PLAINLY, 2)]:
            told = rule_paper(PARTS, BOOK, rule)
            self.assertEqual(len(told), size)
            for part in told[1:]:
                part.clear()
            self.assertTrue(papers.is_rule_paper(PARTS, BOOK, rule.kind, {"x": rule.order("x")},
                                                 rule_paper(PARTS, BOOK, rule)))
        no_rule_paper(RING_PARTS, RINGED)[2].clear()
        self.assertTrue(papers.is_ring_paper(RING_PARTS, RINGED, no_rule_paper(RING_PARTS, RINGED)))


class RulePaperTest(unittest.TestCase):
    def test_right(self):
        kind, rows = rule_paper(PARTS, BOOK, PLAINLY)
        self.assertEqual((kind, sorted(rows)), ("right", [("x", 0, ("b", "a")), ("y", 0, ("a",))]))
        self.assertEqual(rule_paper(PARTS, Allowances([("a", "b", 5, 9999), ("c", "b", 5, 5)]), PLAINLY)[0], "wrong")
        kind, rows = rule_paper(PARTS, Allowances([("a", "b", 5, 9999), ("c", "b", 6, None)]),
                                Rule("row", {"x": ("c", "b")}))
        self.assertEqual((kind, sorted(rows)), ("right", [
            ("x", 0, ("b",)), ("x", 5, ("b", "a")), ("x", 6, ("c", "b", "a")),
            ("y", 0, ("a",)), ("y", 5, ("a",)), ("y", 6, ("a",))]))

    def test_right_for_all_kinds_without_allowances(self):
        for kind in ("row", "plain", "eldest"):
            told, rows = rule_paper(PARTS, EMPTY, Rule(kind, {"x": ("a", "b")}))
            self.assertEqual((told, sorted(rows)), ("right", [("x", 0, ("b",)), ("y", 0, ("a",))]))

    def test_wrong(self):
        told, events, served = rule_paper(PARTS, BOOK, GREEDY)
        self.assertEqual((told, served), ("wrong", ["b", "a"]))
        self.assertEqual(events, [("come", "a", 0), ("come", "b", 0), ("ask", "x", 0), ("ask", "y", 0)])

    def test_candidates_that_change_at_one(self):
        parts, day = PartsList([("x", "b", 1, None)]), Allowances([("c", "b", 0, 0)])
        kind, rows = rule_paper(parts, day, Rule("eldest", {"x": ("c", "b")}))
        self.assertEqual((kind, sorted(rows)), ("right", [("x", 0, ("c", "b")), ("x", 1, ("b",))]))
        kind, events, served = rule_paper(parts, day, Rule("eldest"))
        self.assertEqual((kind, events[-1], served), ("wrong", ("ask", "x", 1), ["c", "b"]))
        kind, events, _ = rule_paper(parts, Allowances([("c", "b", 0, 1)]), Rule("eldest", {"x": ("c", "b")}))
        self.assertEqual((kind, events[-1]), ("wrong", ("ask", "x", 2)))

    def test_against_the_definition(self):
        chance = random.Random(241)
        told = []
        for _ in range(1200):
            book, parts = some_book(chance, "abcd", 6), plain_list(chance, "abcd", 3, 2)
            kind, orders = some_rule(chance, parts.words(), "abcd")
            paper = rule_paper(parts, book, Rule(kind, orders))
            self.assertTrue(papers.is_rule_paper(parts, book, kind, orders, paper))
            self.assertIs(paper[0] == "right", is_right(parts, book, Rule(kind, orders)))
            self.assertIs(paper[0] == "right", brute.is_rule_right(parts, book, kind, orders, range(10)))
            told.append((kind, paper[0]))
        self.assertEqual(len(set(told)), 6)
        self.assertGreater(min(told.count(row) for row in set(told)), 40)

    def test_calls_take_no_long_time(self):
        chance = random.Random(242)
        begin = time.process_time()
        for _ in range(500):
            book, parts = some_book(chance, "abcdef", 6), plain_list(chance, "abcdef", 3)
            kind, orders = some_rule(chance, parts.words(), "abcdef")
            rule_paper(parts, book, Rule(kind, orders))
            no_rule_paper(parts, book)
        self.assertLess(time.process_time() - begin, 10)


class NoRulePaperTest(unittest.TestCase):
    def test_ring(self):
        kind, word, steps = no_rule_paper(RING_PARTS, RINGED)
        self.assertEqual((kind, word), ("ring", "x"))
        self.assertEqual(sorted(steps), [("a", 0, "y", 0), ("b", 0, "x", 4)])

    def test_none(self):
        self.assertIsNone(no_rule_paper(PARTS, BOOK))
        self.assertIsNone(no_rule_paper(RING_PARTS, EMPTY))

    def test_against_the_definition(self):
        chance = random.Random(243)
        sizes = []
        for _ in range(2500):
            book, parts = some_book(chance, "abcd", 7), plain_list(chance, "abcd", 4)
            paper = no_rule_paper(parts, book)
            self.assertIs(paper is None, right_rule(parts, book) is not None)
            if paper is not None:
                self.assertTrue(papers.is_ring_paper(parts, book, paper))
                self.assertEqual((paper[1], [step[0] for step in paper[2]]), ring(parts, book))
                sizes.append(len(paper[2]))
        self.assertTrue({2, 3} <= set(sizes))


class NamesAndDatesTest(unittest.TestCase):
    def test_other_names(self):
        chance = random.Random(244)
        names, words = {"a": "bolt", "b": "nail", "c": "nut", "q": "zz"}, {"x": "m", "y": "k", "z": "l", "none": "no"}
        for _ in range(200):
            book, parts = some_book(chance, "abc", 6), plain_list(chance, "abc", 3)
            kind, orders = some_rule(chance, parts.words(), "abc")
            new = Rule(kind, {words[word]: tuple(names[part] for part in order) for word, order in orders.items()})
            told, *more = rule_paper(parts, book, Rule(kind, orders))
            if told == "right":
                more = [[(words[word], date, tuple(names[part] for part in row)) for word, date, row in more[0]]]
            else:
                events = [(event[0], {**names, **words}[event[1]], event[2]) for event in more[0]]
                more = [events, [names[part] for part in more[1]]]
            self.assertEqual(rule_paper(renamed_list(parts, names, words), renamed_book(book, names), new),
                             (told, *more))
            paper = no_rule_paper(parts, book)
            if paper is not None:
                paper = ("ring", words[paper[1]], [(names[part], date, words[word], later)
                                                   for part, date, word, later in paper[2]])
            self.assertEqual(no_rule_paper(renamed_list(parts, names, words), renamed_book(book, names)), paper)

    def test_dates_put_off(self):
        chance = random.Random(245)
        for _ in range(200):
            book, parts = put_off(some_book(chance, "abc", 6), 1), plain_list(chance, "abc", 3)
            kind, orders = some_rule(chance, parts.words(), "abc")
            rule, days = Rule(kind, orders), chance.choice([1, 9, 9000])
            told, *more = rule_paper(parts, book, rule)
            if told == "right":
                more = [[(word, date and date + days, row) for word, date, row in more[0]]]
            else:
                more[0] = [(*event[:-1], event[-1] + days) for event in more[0]]
            self.assertEqual(rule_paper(parts, put_off(book, days), rule), (told, *more))
            paper = no_rule_paper(parts, book)
            if paper is not None:
                paper = ("ring", paper[1], [(part, date + days, word, later + days)
                                            for part, date, word, later in paper[2]])
            self.assertEqual(no_rule_paper(parts, put_off(book, days)), paper)


if __name__ == "__main__":
    unittest.main()
