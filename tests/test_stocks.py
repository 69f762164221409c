"""Stocks."""

import random
import unittest

from standinparts.errors import BadCount, BadStock
from standinparts.lists import PartsList
from standinparts.stocks import Stock
from tests.odd import Agreeing, all_odd_values, odd_values

GREAT = 10 ** 30


class MakingStocksTest(unittest.TestCase):
    def test_counts(self):
        stock = Stock({"nut": 3, "bolt": 1, "pin": 0, "rod": GREAT})
        self.assertEqual([stock["nut"], stock["bolt"], stock["pin"], stock["rod"]], [3, 1, 0, GREAT])
        self.assertEqual([stock.parts(), len(stock)], [["bolt", "nut", "rod"], 3])

    def test_empty(self):
        for stock in (Stock(), Stock(None), Stock({}), Stock(counts=None), Stock({"a": 0})):
            self.assertEqual([stock.parts(), len(stock), stock["a"]], [[], 0, 0])

    def test_of_a_stock(self):
        one = Stock({"nut": 3})
        other = Stock(one)
        other["nut"] = 5
        one["pin"] = 2
        self.assertEqual([one["nut"], other["nut"], one["pin"], other["pin"]], [3, 5, 2, 0])

    def test_no_dict(self):
        for value in odd_values() + [[], (), [("a", 1)], 5, "a", PartsList([("x", "a", 1, None)])]:
            if value is not None:
                with self.assertRaises(BadStock) as caught:
                    Stock(value)
                self.assertIs(caught.exception.value, value)

    def test_bad_keys(self):
        for key in [None, True, 1, "", "A", "abcdefghi", ("a",), 1.5, b"a"]:
            with self.assertRaises(BadCount) as caught:
                Stock({"z": 1, key: 1, "a": -1})
            self.assertIs(caught.exception.part, key)

    def test_bad_counts(self):
        for value in odd_values() + [-1, GREAT + 1, [], (), {}, "1", [1]]:
            with self.assertRaises(BadCount) as caught:
                Stock({"z": 1, "b": value, "": 1, "a": -1})
            self.assertEqual(caught.exception.part, "b")

    def test_nothing_is_kept_or_changed(self):
        counts = {"nut": 3, "pin": 0}
        stock = Stock(counts)
        self.assertEqual(counts, {"nut": 3, "pin": 0})
        counts["nut"] = 4
        counts["bolt"] = 1
        stock.parts().append("bolt")
        stock["rod"] = 1
        self.assertEqual([stock.parts(), stock["nut"]], [["nut", "rod"], 3])
        self.assertEqual(counts, {"nut": 4, "pin": 0, "bolt": 1})


class ItemsTest(unittest.TestCase):
    def test_parts_that_are_not_there(self):
        stock = Stock({"nut": 3})
        for value in all_odd_values() + ["bolt", 5, ("nut",), ["nut"], slice(0, 1), Agreeing()]:
            self.assertEqual(stock[value], 0)
            self.assertIs(stock[value] is False, False)
        self.assertEqual(stock["nut", "bolt"], 0)
        self.assertEqual(stock.parts(), ["nut"])

    def test_setting(self):
        stock = Stock()
        for count in (3, 0, GREAT, 1, 0, 0):
            stock["nut"] = count
            self.assertEqual([stock["nut"], len(stock)], [count, int(count > 0)])
        stock["nut"] += 5
        stock["bolt"] += 1
        self.assertEqual([stock["nut"], stock.parts()], [5, ["bolt", "nut"]])

    def test_setting_bad_counts(self):
        stock = Stock({"nut": 3})
        for value in odd_values() + [-1, GREAT + 1, [], (), {}, "1", [1]]:
            for part in ("nut", "bolt"):
                with self.assertRaises(BadCount) as caught:
                    stock[part] = value
                self.assertEqual(caught.exception.part, part)
        self.assertEqual(stock, Stock({"nut": 3}))

    def test_setting_bad_parts(self):
        stock = Stock({"nut": 3})
        for value in all_odd_values() + [5, ["nut"]]:
            for count in (0, 1, -1):
                with self.assertRaises(BadCount) as caught:
                    stock[value] = count
                self.assertIs(caught.exception.part, value)
        self.assertEqual(stock, Stock({"nut": 3}))

    def test_total(self):
        stock = Stock({"a": 3, "b": 5, "c": GREAT})
        for parts, units in [([], 0), ((), 0), (["a"], 3), (("a", "b"), 8), (["b", "a", "b", "b"], 8), (["x"], 0),
                             (("a", "x", "x", "a"), 3), (("c", "b", "a"), GREAT + 8)]:
            self.assertEqual(stock.total(parts), units)
        given = ["a", "b", "a"]
        self.assertEqual(stock.total(parts=given), 8)
        self.assertEqual(given, ["a", "b", "a"])

    def test_copy(self):
        one = Stock({"a": 3})
        other = one.copy()
        self.assertIsInstance(other, Stock)
        one["a"] = 4
        other["b"] = 1
        self.assertEqual([one, other], [Stock({"a": 4}), Stock({"a": 3, "b": 1})])

    def test_no_iteration(self):
        for stock in (Stock(), Stock({"a": 3})):
            for deed in (iter, list, tuple, sorted, enumerate, dict):
                with self.assertRaises(TypeError):
                    deed(stock)


class StockOperatorsTest(unittest.TestCase):
    def test_sums_and_differences(self):
        one, other = Stock({"a": 3, "b": 5, "c": 1}), Stock({"b": 2, "c": 1})
        self.assertEqual(one + other, Stock({"a": 3, "b": 7, "c": 2}))
        self.assertEqual(other + one, one + other)
        self.assertEqual(one - other, Stock({"a": 3, "b": 3}))
        self.assertEqual((one - other).parts(), ["a", "b"])
        self.assertEqual([one, other], [Stock({"a": 3, "b": 5, "c": 1}), Stock({"b": 2, "c": 1})])
        self.assertEqual(one + Stock(), one)
        self.assertEqual(one - one, Stock())

    def test_results_go_on_by_themselves(self):
        one = Stock({"a": 3})
        for other in (one + Stock(), one - Stock(), Stock() + one):
            other["a"] = 1
            self.assertEqual(one["a"], 3)

    def test_something_else(self):
        stock = Stock({"a": 3})
        for value in all_odd_values() + [{"a": 1}, 5, [("a", 1)]]:
            for deed in (lambda: stock + value, lambda: stock - value, lambda: stock <= value):
                with self.assertRaises(BadStock) as caught:
                    deed()
                self.assertIs(caught.exception.value, value)

    def test_sums_that_are_no_counts(self):
        one = Stock({"d": GREAT, "c": GREAT, "b": GREAT - 1, "a": 1})
        self.assertEqual((one + Stock({"b": 1}))["b"], GREAT)
        for other, part in [({"d": 1, "c": 1}, "c"), ({"b": 2, "c": 1}, "b"), ({"d": 1, "a": 1}, "d"),
                            ({"c": GREAT}, "c")]:
            with self.assertRaises(BadCount) as caught:
                one + Stock(other)
            self.assertEqual(caught.exception.part, part)
            with self.assertRaises(BadCount) as caught:
                Stock(other) + one
            self.assertEqual(caught.exception.part, part)

    def test_differences_that_are_no_counts(self):
        one = Stock({"d": 2, "c": 2})
        for other, part in [({"d": 3, "c": 3}, "c"), ({"d": 3, "c": 2}, "d"), ({"x": 1, "d": 9}, "d"),
                            ({"z": 1, "x": 1}, "x"), ({"z": GREAT, "a": 1}, "a")]:
            with self.assertRaises(BadCount) as caught:
                one - Stock(other)
            self.assertEqual(caught.exception.part, part)
        self.assertEqual(one, Stock({"d": 2, "c": 2}))

    def test_at_most(self):
        one = Stock({"a": 3, "b": 5})
        for counts, truth in [({"a": 3, "b": 5}, True), ({"a": 4, "b": 5, "c": 1}, True), ({"a": 3, "b": 4}, False),
                              ({"b": 9}, False), ({}, False), ({"a": GREAT, "b": GREAT}, True)]:
            self.assertIs(one <= Stock(counts), truth)
        self.assertIs(Stock() <= Stock(), True)
        self.assertIs(Stock() <= one, True)
        self.assertIs(one >= Stock({"a": 3}), True)

    def test_equal(self):
        self.assertIs(Stock({"a": 3, "b": 0}) == Stock({"a": 3}), True)
        self.assertIs(Stock({"a": 3, "b": 1}) == Stock({"b": 1, "a": 3}), True)
        self.assertIs(Stock({"a": 3}) == Stock({"a": 4}), False)
        self.assertIs(Stock({"a": 3}) == Stock({"b": 3}), False)
        self.assertIs(Stock({"a": 3}) != Stock({"a": 3}), False)
        stock = Stock({"a": 3, "b": 1})
        stock["b"] = 0
        self.assertIs(stock == Stock({"a": 3}), True)

    def test_not_equal_to_another_class(self):
        for value in all_odd_values() + [{"a": 3}]:
            self.assertIs(Stock({"a": 3}) == value, False)
            self.assertIs(Stock() == value, False)

    def test_against_counts(self):
        chance = random.Random(3)
        for _ in range(300):
            mine = {part: chance.randrange(3) for part in "abc"}
            others = {part: chance.randrange(3) for part in "bcd"}
            one, other = Stock(mine), Stock(others)
            self.assertIs(one <= other, all(mine.get(part, 0) <= others.get(part, 0) for part in "abcd"))
            for part in "abcd":
                self.assertEqual((one + other)[part], mine.get(part, 0) + others.get(part, 0))
            lacking = [part for part in "abcd" if mine.get(part, 0) < others.get(part, 0)]
            if lacking:
                with self.assertRaises(BadCount) as caught:
                    one - other
                self.assertEqual(caught.exception.part, lacking[0])
            else:
                self.assertEqual((one - other) + other, one)


if __name__ == "__main__":
    unittest.main()
