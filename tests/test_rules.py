"""Rules: kinds, orders, ranks, and what is preferred."""

import random
import unittest
from itertools import product

from standinparts.errors import BadRule
from standinparts.rules import Rule
from tests import brute
from tests.odd import Agreeing, Unwilling, all_odd_values

PLACE = ("x", "bolt", 2, None)
KINDS = ("row", "plain", "eldest")


class ErrorsTest(unittest.TestCase):
    def check(self, what, *given, **named):
        with self.assertRaises(BadRule) as caught:
            Rule(*given, **named)
        self.assertIs(caught.exception.what, what)

    def test_kinds_ahead_of_orders(self):
        for value in all_odd_values() + ["Row", "row ", "rows", "old", 0, ["row"], ("row",)]:
            self.check(value, value)
            self.check(value, value, {1: 2})
            self.check(value, value, 7)
        for kind in KINDS:
            self.assertEqual(Rule(kind).kind, kind)

    def test_orders_that_are_no_dict(self):
        for value in all_odd_values() + [[("x", ("a",))], (("x", ("a",)),), Rule("row")]:
            if value is not None and not isinstance(value, dict):
                self.check(value, "row", value)

    def test_first_bad_key(self):
        for key in [1, "", "X", "a b", "ninewords", ("x",), None, True, b"x", 1.5]:
            self.check(key, "row", {key: ("a",)})
            self.check(key, "row", {"x": ("a",), key: (), "y": None})
        word = "y"
        self.check(word, "row", {"x": ("a",), word: ["a"], 5: ("a",)})

    def test_values_that_are_no_tuple_of_unlike_parts(self):
        wrong = [["a"], "a", "ab", None, {"a": 1}, ("a", "a"), ("a", "b", "a"), ("a", "B"), ("a", ""), ("a", 1),
                 (("a",),), (None,), (["a"],), ("ninewords",)]
        for value in wrong:
            self.check("x", "plain", {"x": value})
            with self.assertRaises(BadRule) as caught:
                Rule("row", {"x": ("a",)}).with_order("x", value)
            self.assertEqual(caught.exception.what, "x")
        for value in all_odd_values() + [Agreeing(), Unwilling()]:
            self.check("x", "plain", {"x": (value,)})
            self.check("x", "plain", {"x": ("a", value)})

    def test_with_order_of_no_word(self):
        for value in all_odd_values() + ["X", "ninewords"]:
            for parts in [("a",), None]:
                with self.assertRaises(BadRule) as caught:
                    Rule("row").with_order(value, parts)
                self.assertIs(caught.exception.what, value)

    def test_by_name(self):
        rule = Rule(orders={"x": ("a", "b")}, kind="eldest")
        self.assertEqual([rule.kind, rule.order(word="x")], ["eldest", ("a", "b")])
        self.assertEqual(rule.with_order(parts=("c",), word="x").order("x"), ("c",))
        self.assertLess(rule.rank(part="a", word="x"), rule.rank(word="x", part="b"))
        self.assertIs(rule(other=("b", 1), one=("a", 1), place=PLACE), True)


class RuleTest(unittest.TestCase):
    def test_orders(self):
        rule = Rule("row", {"y": ("b", "a"), "x": (), "ab": ("bolt",)})
        self.assertEqual([rule.order(word) for word in ("y", "x", "ab", "z")], [("b", "a"), (), ("bolt",), ()])
        self.assertEqual(rule.words(), ["ab", "x", "y"])
        self.assertEqual([Rule("row").words(), Rule("row", {}).words(), Rule("row", None).words()], [[], [], []])

    def test_nothing_is_kept(self):
        orders = {"x": ("a",)}
        rule = Rule("row", orders)
        orders["y"] = ("b",)
        orders["x"] = ()
        rule.words().append("z")
        self.assertEqual([rule.words(), rule.order("x"), orders], [["x"], ("a",), {"x": (), "y": ("b",)}])

    def test_with_order(self):
        rule = Rule("plain", {"x": ("a",), "y": ("b",)})
        other = rule.with_order("x", ("c", "a"))
        more = rule.with_order("z", ())
        self.assertEqual([other.kind, other.words(), other.order("x"), other.order("y")],
                         ["plain", ["x", "y"], ("c", "a"), ("b",)])
        self.assertEqual([more.words(), more.order("z")], [["x", "y", "z"], ()])
        self.assertEqual([rule.words(), rule.order("x")], [["x", "y"], ("a",)])
        for word, parts in [("x", ("a", "a")), ("X", ()), ("x", ["a"])]:
            with self.assertRaises(BadRule):
                rule.with_order(word, parts)
        self.assertEqual(rule, Rule("plain", {"x": ("a",), "y": ("b",)}))

    def test_equal(self):
        rule = Rule("row", {"x": ("a", "b"), "y": ()})
        self.assertIs(rule == Rule("row", {"y": (), "x": ("a", "b")}), True)
        self.assertIs(rule != Rule("row").with_order("y", ()).with_order("x", ("a", "b")), False)
        for other in [Rule("plain", {"x": ("a", "b"), "y": ()}), Rule("row", {"x": ("b", "a"), "y": ()}),
                      Rule("row", {"x": ("a", "b")}), Rule("row", {"x": ("a", "b"), "y": (), "z": ()}), Rule("row")]:
            self.assertIs(rule == other, False)
        for value in all_odd_values() + ["row", ("row", {}), {"x": ("a", "b"), "y": ()}]:
            self.assertIs(rule == value, False)

    def test_plainly(self):
        self.assertEqual(Rule.plainly(), Rule("plain"))
        self.assertEqual([Rule.plainly().kind, Rule.plainly().words()], ["plain", []])
        self.assertIsInstance(vars(Rule)["plainly"], staticmethod)

    def test_ranks(self):
        rule = Rule("eldest", {"x": ("c", "a", "zz")})
        parts = sorted(["a", "b", "c", "d", "zz", "bolt", "x"], key=lambda part: rule.rank("x", part))
        self.assertEqual(parts, ["c", "a", "zz", "b", "bolt", "d", "x"])
        self.assertEqual(sorted("dbca", key=lambda part: rule.rank("y", part)), list("abcd"))
        for part in ("c", "b"):
            self.assertIsInstance(rule.rank("x", part), tuple)
            self.assertEqual(rule.rank("x", part), rule.rank("x", part))
        twelve = Rule("row", {"x": tuple("lkjihgfedcba")})
        self.assertEqual(sorted("abcdefghijklm", key=lambda part: twelve.rank("x", part)), list("lkjihgfedcbam"))


class PreferredTest(unittest.TestCase):
    def check(self, rule, place, *units):
        """That each unit is preferred to those behind it, and to no other one."""
        for at, one in enumerate(units):
            for other_at, other in enumerate(units):
                self.assertIs(rule(place, one, other), at < other_at)

    def test_row(self):
        rule = Rule("row", {"x": ("nail", "bolt")})
        self.check(rule, PLACE, ("nail", 5), ("nail", 6), ("bolt", 0), ("bolt", 9999), ("ax", 1), ("screw", 0))
        self.check(Rule("row"), PLACE, ("ax", 7), ("bolt", 3), ("bolt", 4), ("nail", 0))

    def test_plain(self):
        rule = Rule("plain", {"x": ("nail", "bolt", "ax")})
        self.check(rule, PLACE, ("bolt", 5), ("bolt", 6), ("nail", 3), ("nail", 8), ("ax", 1), ("aa", 0), ("zz", 0))
        self.check(Rule.plainly(), PLACE, ("bolt", 9), ("ax", 7), ("nail", 0))

    def test_eldest(self):
        rule = Rule("eldest", {"x": ("nail", "bolt")})
        self.check(rule, PLACE, ("zz", 0), ("bolt", 1), ("nail", 2), ("bolt", 2), ("aa", 2), ("screw", 2), ("nail", 3))

    def test_the_order_of_the_place_counts(self):
        rule = Rule("row", {"x": ("a", "b"), "y": ("b", "a")})
        self.check(rule, ("x", "bolt", 1, None), ("a", 0), ("b", 0))
        self.check(rule, ("y", "bolt", 1, 0), ("b", 0), ("a", 0))
        self.check(rule, ("z", "b", 1, None), ("a", 0), ("b", 0))

    def test_equal_units(self):
        for kind in KINDS:
            for unit in [("bolt", 3), ("nail", 0), ("zz", 9999)]:
                self.assertIs(Rule(kind, {"x": ("nail",)})(PLACE, unit, (unit[0], unit[1])), False)

    def test_against_the_definition(self):
        chance = random.Random(81)
        units = list(product(["a", "b", "c", "d"], [0, 1, 7]))
        for kind in KINDS:
            for _ in range(30):
                order = tuple(chance.sample("abcd", chance.randrange(5)))
                plain = chance.choice("abcd")
                rule = Rule(kind, {"x": order})
                for one, other in product(units, units):
                    less = brute.preference(kind, order, plain, one) < brute.preference(kind, order, plain, other)
                    self.assertIs(rule(("x", plain, 1, None), one, other), less)


if __name__ == "__main__":
    unittest.main()
