"""Checking papers of rules: those that are told, nearly right ones, and values of all kinds."""

import random
import time
import unittest

from standinparts.allowances import Allowances
from standinparts.errors import BadShare
from standinparts.judging import is_right, right_rule
from standinparts.lists import PartsList
from standinparts.rulechecker import lets_ring, lets_rule
from standinparts.rulepapers import no_rule_paper, rule_paper
from standinparts.rules import Rule
from tests import brute, papers
from tests.odd import Agreeing, Unwilling, all_odd_values
from tests.samples import plain_list, some_book, some_events, some_rule, some_rush

BOOK = Allowances([("a", "b", 0, None)])
PARTS = PartsList([("x", "b", 1, None), ("y", "a", 1, None)])
PLAINLY = Rule.plainly()
GREEDY = Rule("row", {"x": ("a", "b")})
EVENTS = [("come", "a", 0), ("come", "b", 0), ("ask", "x", 0), ("ask", "y", 0)]
RINGED = Allowances([("b", "a", 0, 3)])
RING_PARTS = PartsList([("x", "a", 1, None), ("y", "b", 1, None)])
STEPS = [("b", 0, "x", 4), ("a", 0, "y", 0)]


def odd():
    """Values of all kinds, and such as may be taken for others."""
    return all_odd_values() + [0, 1, 1.0, "a", "b", "x", "right", "wrong", "ring", BOOK, PARTS, GREEDY, object()]


def parts_of(value):
    """All ways down to the parts of nested tuples and lists, as tuples of indexes."""
    ways = [()]
    if isinstance(value, (tuple, list)):
        for at, part in enumerate(value):
            ways += [(at, *way) for way in parts_of(part)]
    return ways


def part_at(value, way):
    """What stands at the end of a way."""
    for at in way:
        value = value[at]
    return value


def put_at(value, way, other):
    """The value with another part at the end of a way."""
    if not way:
        return other
    parts = list(value)
    parts[way[0]] = put_at(parts[way[0]], way[1:], other)
    return type(value)(parts)


def spoilt(chance, value, names, others):
    """A value with one of its parts left out, doubled, turned about or exchanged, in one way of many."""
    way = chance.choice(parts_of(value))
    part = part_at(value, way)
    if isinstance(part, (tuple, list)) and chance.random() < 0.8:
        kind, rows = type(part), list(part)
        at = chance.randrange(len(rows) + 1)
        act = chance.randrange(6)
        if act == 0 and rows:
            del rows[at % len(rows)]
        elif act == 1 and rows:
            rows.insert(at, rows[chance.randrange(len(rows))])
        elif act == 2:
            chance.shuffle(rows)
        elif act == 3:
            kind = list if kind is tuple else tuple
        elif act == 4 and len(rows) > 1:
            one, other = chance.sample(range(len(rows)), 2)
            rows[one], rows[other] = rows[other], rows[one]
        else:
            rows.append(chance.choice(others))
        return put_at(value, way, kind(rows))
    if isinstance(part, str):
        return put_at(value, way, chance.choice(names))
    if type(part) is int:
        return put_at(value, way, chance.choice([part + 1, max(part - 1, 0), 0, 1, 4, True, 1.0, 9999, 10000]))
    return put_at(value, way, chance.choice(others))


class ErrorsTest(unittest.TestCase):
    def test_shares(self):
        for places, word in [([("x", "b", 1, 1)], "x"), ([("y", "a", 1, None), ("z", "b", 2, 0)], "z")]:
            for value in [None, ("right", []), ("wrong", [], []), ("ring", "x", []), Unwilling()]:
                with self.assertRaises(BadShare) as caught:
                    lets_rule(PartsList(places), BOOK, PLAINLY, value)
                self.assertEqual(caught.exception.word, word)
                with self.assertRaises(BadShare) as caught:
                    lets_ring(PartsList(places), BOOK, value)
                self.assertEqual(caught.exception.word, word)

    def test_by_name(self):
        value = rule_paper(PARTS, BOOK, GREEDY)
        self.assertIs(lets_rule(value=value, rule=GREEDY, allowances=BOOK, parts_list=PARTS), True)
        self.assertIs(lets_ring(value=("ring", "x", STEPS), allowances=RINGED, parts_list=RING_PARTS), True)

    def test_nothing_changed(self):
        for rule in (GREEDY, PLAINLY):
            value, kept = rule_paper(PARTS, BOOK, rule), rule_paper(PARTS, BOOK, rule)
            self.assertIs(lets_rule(PARTS, BOOK, rule, value), True)
            self.assertEqual(value, kept)
        value = ("ring", "x", list(STEPS))
        lets_ring(RING_PARTS, RINGED, value)
        self.assertEqual(value, ("ring", "x", STEPS))

    def test_any_values(self):
        for value in odd() + [Agreeing(), Unwilling()]:
            self.assertIs(lets_rule(PARTS, BOOK, PLAINLY, value), False)
            self.assertIs(lets_ring(RING_PARTS, RINGED, value), False)
        for paper, rule in [(rule_paper(PARTS, BOOK, PLAINLY), PLAINLY), (rule_paper(PARTS, BOOK, GREEDY), GREEDY)]:
            for way in parts_of(paper):
                for value in all_odd_values() + [Agreeing(), Unwilling(), PARTS]:
                    self.assertIs(lets_rule(PARTS, BOOK, rule, put_at(paper, way, value)), False)
        parts = PartsList([("x", "b", 1, None), ("y", "a", 2, None)])
        paper = ("wrong", [("come", "a", 0), ("come", "a", 0), ("come", "b", 0), ("order", 0)],
                 [(("x", ("b",)), ("y", ("a", "a")))])
        self.assertIs(lets_rule(parts, BOOK, GREEDY, paper), True)
        for way in parts_of(paper):
            for value in all_odd_values() + [Agreeing(), Unwilling(), PARTS]:
                self.assertIs(lets_rule(parts, BOOK, GREEDY, put_at(paper, way, value)), False)
        for way in parts_of(("ring", "x", STEPS)):
            for value in all_odd_values() + [Agreeing(), Unwilling(), PARTS]:
                self.assertIs(lets_ring(RING_PARTS, RINGED, put_at(("ring", "x", STEPS), way, value)), False)


class RightPapersTest(unittest.TestCase):
    def check(self, truth, rows, rule=PLAINLY):
        self.assertIs(lets_rule(PARTS, BOOK, rule, ("right", rows)), truth)

    def test_rows(self):
        one, other = ("x", 0, ("b", "a")), ("y", 0, ("a",))
        self.check(True, [one, other])
        self.check(True, [other, one])
        for rows in [[], [one], [other], [one, one], [one, other, other], [one, other, one], (one, other),
                     [one, ("y", 1, ("a",))], [("x", 0, ("a", "b")), other], [("x", 0, ("b",)), other],
                     [("x", 0, ["b", "a"]), other], [["x", 0, ("b", "a")], other], [("x", 0, ("b", "a", "a")), other],
                     [("x", False, ("b", "a")), other], [("x", 0, ("b", "a", "c")), other], [one, ("z", 0, ("a",))],
                     [one, other, ("x", 1, ("b", "a"))], [("y", 0, ("b", "a")), ("x", 0, ("a",))]]:
            self.check(False, rows)
        for kind in ("wrong", "Right", "ring", "", None, b"right", ["right"], ("right",)):
            self.assertIs(lets_rule(PARTS, BOOK, PLAINLY, (kind, [one, other])), False)
        for value in [["right", [one, other]], ("right", [one, other], []), ("right",), ("right", one, other)]:
            self.assertIs(lets_rule(PARTS, BOOK, PLAINLY, value), False)

    def test_of_another_rule(self):
        rows = rule_paper(PARTS, BOOK, PLAINLY)[1]
        self.check(False, rows, GREEDY)
        self.check(False, [("x", 0, ("a", "b")), ("y", 0, ("a",))], GREEDY)
        self.check(True, rows, Rule("row", {"x": ("b", "a")}))
        self.check(False, rows, Rule("eldest", {"x": ("b", "a")}))

    def test_eldest(self):
        parts, rule = PartsList([("x", "b", 1, None)]), Rule("eldest", {"x": ("c", "b")})
        for book, rows, truth in [
                (Allowances([("c", "b", 0, 0)]), [("x", 0, ("c", "b")), ("x", 1, ("b",))], True),
                (Allowances([("c", "b", 0, 0)]), [("x", 0, ("b", "c")), ("x", 1, ("b",))], False),
                (Allowances([("c", "b", 0, 1)]), [("x", 0, ("c", "b")), ("x", 2, ("b",))], False),
                (Allowances([("c", "b", 1, 1)]), [("x", 0, ("b",)), ("x", 1, ("c", "b")), ("x", 2, ("b",))], False),
                (Allowances([("c", "b", 0, None)]), [("x", 0, ("c", "b"))], True),
                (Allowances([("c", "b", 0, None)]), [("x", 0, ("b", "c"))], False)]:
            self.assertIs(lets_rule(parts, book, rule, ("right", rows)), truth)
            self.assertIs(is_right(parts, book, rule), truth or rows[0][2] == ("b", "c"))


class WrongPapersTest(unittest.TestCase):
    def check(self, truth, events, served, rule=GREEDY):
        self.assertIs(lets_rule(PARTS, BOOK, rule, ("wrong", events, served)), truth)

    def test_papers(self):
        self.check(True, EVENTS, ["b", "a"])
        self.check(True, [("come", "zz", 0), *EVENTS], ["b", "a"])
        self.check(True, [("ask", "y", 0), *EVENTS], ["b", "a"])
        self.check(True, [*EVENTS, ("ask", "y", 9999)], ["b", "a"])
        self.check(False, EVENTS, ["b", "a"], PLAINLY)

    def test_what_is_served(self):
        for served in [[], ["b"], ["a"], ["a", "b"], ["b", "b"], ["a", "a"], ["b", "a", "a"], ("b", "a"), ["b", "c"],
                       ["b", ("a",)], [("b",), "a"], ["b", (("y", ("a",)),)], ["b", None], [None, "a"], "ba",
                       [True, True, "b", "a"], ["b", "a", None], {0: "b", 1: "a"}]:
            self.check(False, EVENTS, served)

    def test_events(self):
        come, other, ask, last = EVENTS
        for events in [[], EVENTS[:3], EVENTS[1:], [come, other, last, ask], [come, ask, other, last], tuple(EVENTS),
                       [*EVENTS, ("come", "a", 0)], [come, other, ask, list(last)], [come, other, ask, ("ask", "y")],
                       [come, other, ask, ("ask", "y", True)], [come, ("come", "b", 1), ask, last],
                       [("come", "a", 5), other, ask, last], [come, other, ask, ("ask", "x", 0)],
                       [come, other, ask, ("ask", "z", 0)], [come, other, last], [come, other, ("order", 0)],
                       [come, other, ask, ("order", 0)], [come, other, ask, last, ("ask", "x", 0)]]:
            self.check(False, events, ["b", "a"])

    def test_a_unit_that_came_behind_the_ask(self):
        events = [("come", "a", 0), ("ask", "x", 0), ("come", "b", 0), ("ask", "y", 0)]
        self.check(False, events, ["b", "a"])
        self.check(False, events, ["a", "a"])

    def test_one_unit_told_twice(self):
        events = [*EVENTS[:3], ("come", "a", 0), ("ask", "y", 0), ("ask", "y", 0)]
        self.check(False, events, ["a", "a", "a"])
        self.check(True, events, ["b", "a", "a"])

    def test_served_by_the_rule_or_not_to_be_served(self):
        self.check(False, [*EVENTS[:3], ("come", "a", 0), EVENTS[3]], ["b", "a"])
        self.check(False, [EVENTS[0], EVENTS[2], EVENTS[3]], ["a", "a"])
        self.check(False, [("ask", "y", 0)], ["a"])
        self.check(False, [("come", "a", 0)], ["a"])
        self.check(False, [("come", "a", 0)], [])

    def test_orders(self):
        parts = PartsList([("x", "b", 2, None), ("y", "a", 1, None)])
        events = [("come", "a", 0), ("come", "a", 0), ("come", "b", 0), ("order", 0)]
        good = (("x", ("b", "a")), ("y", ("a",)))
        for served, truth in [
                ([good], True), ([(("x", ("a", "b")), ("y", ("a",)))], True), ([list(good)], False),
                ([good[:1]], False),
                ([(good[1], good[0])], False), ([(("x", ("b",)), ("y", ("a",)))], False), (["a"], False), ([()], False),
                ([(("x", ("b", "b")), ("y", ("a",)))], False), ([(("x", ("a", "a")), ("y", ("a",)))], False),
                ([(("x", ("a", "a")), ("y", ("b",)))], False), ([(("x", ["b", "a"]), ("y", ("a",)))], False),
                ([(["x", ("b", "a")], ("y", ("a",)))], False), ([(("x", ("b", "a")), ("y", "a"))], False),
                ([(("x", ("b", "a"), 1), ("y", ("a",)))], False), ([(("z", ("b", "a")), ("y", ("a",)))], False),
                ([good, good], False), ([(*good, good[1])], False)]:
            self.assertIs(lets_rule(parts, BOOK, GREEDY, ("wrong", events, served)), truth)
        events = [("come", "a", 0), ("come", "a", 0), ("come", "b", 0), ("come", "b", 0), ("come", "a", 0),
                  ("order", 0), ("ask", "y", 0)]
        self.assertIs(lets_rule(parts, BOOK, GREEDY, ("wrong", events, [good, "a"])), True)
        self.assertIs(lets_rule(parts, BOOK, GREEDY, ("wrong", events, ["a", good])), False)


class RingPapersTest(unittest.TestCase):
    def check(self, truth, value):
        self.assertIs(lets_ring(RING_PARTS, RINGED, value), truth)
        self.assertIs(papers.is_ring_paper(RING_PARTS, RINGED, value), truth)

    def test_papers(self):
        one, other = STEPS
        self.check(True, ("ring", "x", [one, other]))
        self.check(True, ("ring", "x", [other, one]))
        self.check(True, ("ring", "x", [("b", 3, "x", 9999), ("a", 1, "y", 7)]))

    def test_parts_twice_are_a_ring_too(self):
        # Point 17 asks of the steps only that each part must be ahead of the next one.
        self.check(True, ("ring", "x", STEPS + STEPS))

    def test_nearly(self):
        one, other = STEPS
        for steps in [[], [one], [other], [one, one], [other, other], [one, one, other], (one, other),
                      [one, list(other)],
                      [("a", *one[1:]), ("b", *other[1:])], [("b", 4, "x", 4), other], [("b", 0, "x", 3), other],
                      [("b", 0, "y", 4), other], [one, ("a", 0, "x", 0)], [one, ("a", 1, "y", 0)],
                      [one, ("a", 4, "y", 4)],
                      [("b", 0, "x", 10000), other], [("b", -1, "x", 4), other], [("b", False, "x", 4), other],
                      [("b", 0, "z", 4), other], [("c", 0, "x", 4), other], [("b", 0, "x"), other],
                      [("b", 0, "x", 4, 4), other], ["b0x4", other], [one, ("a", 0, "y", False)]]:
            self.check(False, ("ring", "x", steps))
        for value in [("ring", "y", STEPS), ("ring", "z", STEPS), ("Ring", "x", STEPS), ["ring", "x", STEPS],
                      ("ring", "x", STEPS, []), ("ring", "x"), ("ring", ["x"], STEPS), ("ring", None, STEPS)]:
            self.check(False, value)


class AgainstTheDefinitionTest(unittest.TestCase):
    NAMES = ["a", "b", "c", "d", "x", "y", "z", "right", "wrong", "ring", "come", "ask", "order", ""]

    def others(self):
        return [None, True, 1, 0, "a", ("a",), ["a"], ("x", 0, ("a",)), (), [], ("ask", "x", 2), ("order", 9)]

    def test_papers_that_are_told(self):
        chance = random.Random(261)
        told = []
        for _ in range(700):
            book, parts = some_book(chance, "abcd", 7), plain_list(chance, "abcd", 3, 2)
            kind, orders = some_rule(chance, parts.words(), "abcd")
            paper = rule_paper(parts, book, Rule(kind, orders))
            self.assertIs(lets_rule(parts, book, Rule(kind, orders), paper), True)
            told.append((kind, paper[0]))
            paper = no_rule_paper(parts, book)
            self.assertIs(lets_ring(parts, book, paper), paper is not None)
        self.assertEqual(len(set(told)), 6)

    def test_rule_papers_put_otherwise(self):
        chance = random.Random(262)
        told = []
        for _ in range(300):
            book, parts = some_book(chance, "abc", 6), plain_list(chance, "abc", 2)
            kind, orders = some_rule(chance, parts.words(), "abc")
            rule = Rule(kind, orders)
            paper = rule_paper(parts, book, rule)
            for _ in range(15):
                value = spoilt(chance, paper, self.NAMES, self.others())
                if chance.random() < 0.3:
                    value = spoilt(chance, value, self.NAMES, self.others())
                let = lets_rule(parts, book, rule, value)
                self.assertIs(let, papers.is_rule_paper(parts, book, kind, orders, value))
                told.append((paper[0], let))
                if let:
                    self.assertIs(value[0] == "right", is_right(parts, book, rule))
        self.assertEqual(len(set(told)), 4)
        self.assertGreater(min(told.count(row) for row in set(told)), 50)

    def test_rows_of_any_orders(self):
        # For rules of any kind, right or not, all candidates in the order in which they are preferred.
        chance = random.Random(263)
        truths = []
        for _ in range(500):
            book, parts = some_book(chance, "abc", 5), plain_list(chance, "abc", 2)
            kind, orders = some_rule(chance, parts.words(), "abc")
            rows = [(word, date, tuple(sorted(brute.candidates(book, plain, date), key=lambda part: brute.preference(
                kind, orders.get(word, ()), plain, (part, 0)))))
                    for word, plain, _, _ in parts.places() for date in brute.dates(book)]
            chance.shuffle(rows)
            let = lets_rule(parts, book, Rule(kind, orders), ("right", rows))
            self.assertIs(let, brute.is_rule_right(parts, book, kind, orders, range(10)))
            truths.append(let)
        self.assertGreater(min(truths.count(True), truths.count(False)), 50)

    def test_longer_rows_of_events(self):
        chance = random.Random(264)
        truths = []
        for k in range(2500):
            book, parts = some_book(chance, "abc", 6), plain_list(chance, "abc", 3, 2)
            kind, orders = some_rule(chance, parts.words(), "abc")
            events = some_rush(chance, parts, "abc", 5, 4, 2) if k % 2 else some_events(chance, parts, "abc", 14, 2)
            answers, _ = brute.answers(parts, book, kind, orders, events)
            end = next((at for at, answer in enumerate(answers) if answer is None), None)
            if end is None:
                continue
            events = events[:end + 1]
            served = self.some_serving(chance, parts, book, events)
            for value in [("wrong", events, served), spoilt(chance, ("wrong", events, served), self.NAMES, ["a"])]:
                let = lets_rule(parts, book, Rule(kind, orders), value)
                self.assertIs(let, papers.is_rule_paper(parts, book, kind, orders, value))
                truths.append(let)
                if let:
                    self.assertIs(is_right(parts, book, Rule(kind, orders)), False)
        self.assertGreater(min(truths.count(True), truths.count(False)), 40)

    def some_serving(self, chance, parts, book, events):
        """What events could get, tried a few times with drawn units; of the last try whatever fits."""
        for _ in range(12):
            held, served, good = [], [], True
            for event in events:
                if event[0] == "come":
                    held.append(event[1])
                    continue
                rows = []
                for word in [event[1]] if event[0] == "ask" else parts.words():
                    _, plain, number, _ = parts[word]
                    units = []
                    for _ in range(1 if event[0] == "ask" else number):
                        fits = [part for part in held if part in brute.candidates(book, plain, event[-1])]
                        good = good and fits
                        units.append(chance.choice(fits) if fits else "a")
                        held = held[:] if not fits else self.without(held, units[-1])
                    rows.append((word, tuple(units)))
                served.append(rows[0][1][0] if event[0] == "ask" else tuple(rows))
            if good:
                break
        return served

    def without(self, held, part):
        """The units without one of a part."""
        left = list(held)
        left.remove(part)
        return left

    def test_ring_papers_put_otherwise(self):
        chance = random.Random(265)
        truths = []
        for _ in range(600):
            book, parts = some_book(chance, "abcd", 7), plain_list(chance, "abcd", 3)
            paper = no_rule_paper(parts, book)
            if paper is None:
                paper = ("ring", parts.words()[0], [("a", 0, "x", 1), ("b", 1, "y", 4)])
            for _ in range(12):
                value = spoilt(chance, paper, self.NAMES, self.others())
                let = lets_ring(parts, book, value)
                self.assertIs(let, papers.is_ring_paper(parts, book, value))
                truths.append(let)
                if let:
                    self.assertIsNone(right_rule(parts, book))
        self.assertGreater(min(truths.count(True), truths.count(False)), 100)

    def test_drawn_steps(self):
        chance = random.Random(266)
        truths = []
        for _ in range(20000):
            book, parts = Allowances([("b", "a", 1, 3), ("c", "b", 0, 4), ("a", "c", 2, None)]), plain_list(
                chance, "abc", 2)
            steps = [(chance.choice("abc"), chance.randrange(5), chance.choice("xy"), chance.randrange(7))
                     for _ in range(2)]
            value = ("ring", chance.choice("xy"), steps)
            let = lets_ring(parts, book, value)
            self.assertIs(let, papers.is_ring_paper(parts, book, value))
            truths.append(let)
        self.assertGreater(truths.count(True), 10)

    def test_calls_take_no_long_time(self):
        chance = random.Random(267)
        begin = time.process_time()
        for _ in range(300):
            book, parts = some_book(chance, "abcdef", 6), plain_list(chance, "abcdef", 3)
            kind, orders = some_rule(chance, parts.words(), "abcdef")
            self.assertIs(lets_rule(parts, book, Rule(kind, orders), rule_paper(parts, book, Rule(kind, orders))), True)
            lets_ring(parts, book, no_rule_paper(parts, book))
        letters = "abcdefghijkl"
        book = Allowances([(letters[k], letters[k - 1], 3 * k, 3 * k + 40) for k in range(12)], through=True)
        parts = PartsList([("p" + letter, letter, 1, None) for letter in letters])
        for kind in ("row", "plain", "eldest"):
            self.assertIs(lets_rule(parts, book, Rule(kind), rule_paper(parts, book, Rule(kind))), True)
        self.assertLess(time.process_time() - begin, 10)


if __name__ == "__main__":
    unittest.main()
