"""Growing: how many orders a stock serves by a rule, and that one unit more never makes them fewer."""

import random
import time
import unittest

from standinparts.allowances import Allowances
from standinparts.errors import BadShare, TooMany
from standinparts.growing import made_by
from standinparts.lists import PartsList
from standinparts.making import most
from standinparts.rules import Rule
from standinparts.runs import Run
from standinparts.stocks import Stock
from tests import brute
from tests.samples import plain_list, put_off, renamed_book, renamed_list, some_book, some_counts, some_rule, wide_book

EMPTY = Allowances()
BOOK = Allowances([("a", "b", 0, None)])
PARTS = PartsList([("x", "b", 1, None), ("y", "a", 1, None)])
PLAINLY = Rule.plainly()
GREEDY = Rule("row", {"x": ("a", "b")})


def asked(parts, book, kind, orders, date, counts):
    """How many orders are served, asked one by one with all units told."""
    events = [("come", part, date) for part, count in counts.items() for _ in range(count)]
    many = 0
    while True:
        told, _ = brute.answers(parts, book, kind, orders, events + [("order", date)] * (many + 1))
        if told[-1] is None:
            return many
        many += 1


class ErrorsTest(unittest.TestCase):
    def test_shares_ahead_of_too_many(self):
        for places, word in [([("x", "b", 1, 1)], "x"), ([("y", "a", 1, None), ("z", "b", 2, 0)], "z")]:
            for stock in (Stock(), Stock({"b": 10 ** 30})):
                with self.assertRaises(BadShare) as caught:
                    made_by(PartsList(places), BOOK, PLAINLY, 0, stock)
                self.assertEqual(caught.exception.word, word)

    def test_a_thousand_units_and_a_thousand_and_one(self):
        self.assertEqual(made_by(PARTS, BOOK, PLAINLY, 0, Stock({"a": 500, "b": 500})), 500)
        self.assertEqual(made_by(PARTS, BOOK, GREEDY, 0, Stock({"a": 500, "b": 500})), 250)
        self.assertEqual(made_by(PARTS, BOOK, PLAINLY, 0, Stock({"a": 1000})), 500)
        self.assertEqual(made_by(PartsList([("x", "b", 1, None)]), BOOK, PLAINLY, 0, Stock({"a": 1, "b": 999})), 1000)
        for counts in [{"a": 500, "b": 501}, {"a": 1001}, {"b": 1001}, {"a": 10 ** 30, "b": 10 ** 30}]:
            with self.assertRaises(TooMany) as caught:
                made_by(PARTS, BOOK, PLAINLY, 0, Stock(counts))
            self.assertEqual(caught.exception.limit, 1000)

    def test_units_of_other_parts_do_not_count(self):
        stock = Stock({"a": 500, "b": 500, "c": 10 ** 30})
        self.assertEqual(made_by(PARTS, BOOK, PLAINLY, 0, stock), 500)
        book = Allowances([("c", "b", 3, 4), ("a", "b", 0, None)])
        for date, many in [(2, True), (3, False), (4, False), (5, True)]:
            if many:
                self.assertEqual(made_by(PARTS, book, PLAINLY, date, stock), 500)
            else:
                with self.assertRaises(TooMany):
                    made_by(PARTS, book, PLAINLY, date, stock)

    def test_by_name_and_nothing_changed(self):
        stock = Stock({"a": 5, "b": 3})
        self.assertEqual(made_by(stock=stock, date=9999, rule=GREEDY, allowances=BOOK, parts_list=PARTS), 2)
        self.assertEqual(stock, Stock({"a": 5, "b": 3}))
        with self.assertRaises(TooMany):
            stock["a"] = 1000
            made_by(PARTS, BOOK, PLAINLY, 0, stock)
        self.assertEqual([stock["a"], stock["b"]], [1000, 3])


class MadeByTest(unittest.TestCase):
    def test_ordinary(self):
        for counts, plainly, greedy in [({}, 0, 0), ({"a": 3, "b": 1}, 2, 1), ({"a": 2, "b": 2}, 2, 1),
                                        ({"b": 9}, 0, 0), ({"a": 1, "b": 9}, 1, 0), ({"a": 9, "b": 0}, 4, 4)]:
            self.assertEqual(made_by(PARTS, BOOK, PLAINLY, 0, Stock(counts)), plainly)
            self.assertEqual(made_by(PARTS, BOOK, GREEDY, 0, Stock(counts)), greedy)

    def test_several_units(self):
        parts = PartsList([("x", "b", 3, None), ("y", "a", 2, None)])
        self.assertEqual(made_by(parts, BOOK, PLAINLY, 0, Stock({"a": 5, "b": 5})), 2)
        self.assertEqual(made_by(parts, BOOK, PLAINLY, 0, Stock({"a": 5, "b": 4})), 1)
        self.assertEqual(made_by(parts, BOOK, GREEDY, 0, Stock({"a": 5, "b": 5})), 1)
        full = PartsList([("x", "b", 999, None)])
        self.assertEqual(made_by(full, BOOK, PLAINLY, 0, Stock({"b": 998})), 0)
        self.assertEqual(made_by(full, BOOK, PLAINLY, 0, Stock({"b": 998, "a": 2})), 1)

    def test_eldest_goes_by_ranks(self):
        self.assertEqual(made_by(PARTS, BOOK, Rule("eldest", {"x": ("b",)}), 4, Stock({"a": 2, "b": 2})), 2)
        self.assertEqual(made_by(PARTS, BOOK, Rule("eldest", {"x": ("a",)}), 4, Stock({"a": 2, "b": 2})), 1)
        self.assertEqual(made_by(PARTS, BOOK, Rule("eldest"), 4, Stock({"a": 2, "b": 2})), 1)

    def test_without_allowances(self):
        for kind in ("row", "plain", "eldest"):
            self.assertEqual(made_by(PARTS, EMPTY, Rule(kind, {"x": ("a", "b")}), 0, Stock({"a": 4, "b": 7})), 4)

    def test_against_asking_order_by_order(self):
        chance = random.Random(221)
        told = []
        for _ in range(900):
            book, parts = some_book(chance, "abc", 6), plain_list(chance, "abc", 3, 3)
            (kind, orders), date = some_rule(chance, parts.words(), "abc"), chance.randrange(6)
            counts = some_counts(chance, "abcd", 6)
            many = made_by(parts, book, Rule(kind, orders), date, Stock(counts))
            self.assertEqual(many, asked(parts, book, kind, orders, date, counts))
            self.assertLessEqual(many, most(parts, book, date, Stock(counts)))
            told.append(many)
        self.assertTrue({0, 1, 2, 3, 4, 5} <= set(told))

    def test_as_a_run(self):
        chance = random.Random(222)
        for _ in range(100):
            book, parts = some_book(chance, "abcd", 8), plain_list(chance, "abcd", 3, 4)
            kind, orders = some_rule(chance, parts.words(), "abcd")
            counts, run = some_counts(chance, "abcd", 20), Run(parts, book, Rule(kind, orders))
            for part, count in counts.items():
                for _ in range(count):
                    run.do(("come", part, 5))
            many = 0
            while run.do(("order", 5)) is not None:
                many += 1
            self.assertEqual(made_by(parts, book, Rule(kind, orders), 5, Stock(counts)), many)

    def test_one_unit_more_never_makes_it_less(self):
        chance = random.Random(223)
        more = 0
        for _ in range(600):
            book, parts = some_book(chance, "abcd", 7), plain_list(chance, "abcd", 4, 3)
            (kind, orders), date = some_rule(chance, parts.words(), "abcd"), chance.randrange(6)
            stock = Stock(some_counts(chance, "abcd", 9))
            rule = Rule(kind, orders)
            many = made_by(parts, book, rule, date, stock)
            for part in "abcde":
                grown = made_by(parts, book, rule, date, stock + Stock({part: 1}))
                self.assertGreaterEqual(grown, many)
                more += grown - many
        self.assertGreater(more, 100)

    def test_names_and_dates(self):
        chance = random.Random(224)
        names, words = {"a": "bolt", "b": "nail", "c": "nut", "q": "zz"}, {"x": "m", "y": "k", "z": "l", "none": "no"}
        for _ in range(200):
            book, parts = some_book(chance, "abc", 6), plain_list(chance, "abc", 3, 2)
            (kind, orders), counts = some_rule(chance, parts.words(), "abc"), some_counts(chance, "abc", 9)
            many = made_by(parts, book, Rule(kind, orders), 2, Stock(counts))
            self.assertEqual(made_by(parts, put_off(book, 9000), Rule(kind, orders), 9002, Stock(counts)), many)
            new = Rule(kind, {words[word]: tuple(names[part] for part in order) for word, order in orders.items()})
            stock = Stock({names[part]: count for part, count in counts.items()})
            self.assertEqual(made_by(renamed_list(parts, names, words), renamed_book(book, names), new, 2, stock), many)

    def test_calls_take_no_long_time(self):
        begin = time.process_time()
        parts = PartsList([("p" + letter, "a", 1, None) for letter in "abcdefghijkl"])
        stock = Stock({"p" + letter: 83 for letter in "abcdefghijkl"})
        for kind in ("row", "plain", "eldest"):
            for _ in range(50):
                self.assertEqual(made_by(parts, wide_book(12), Rule(kind), 0, stock), 83)
        single = PartsList([("x", "a", 1, None)])
        for _ in range(50):
            self.assertEqual(made_by(single, wide_book(12), PLAINLY, 0, Stock({"a": 1000})), 1000)
        self.assertLess(time.process_time() - begin, 10)


if __name__ == "__main__":
    unittest.main()
