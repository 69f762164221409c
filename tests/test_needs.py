"""Uses: least and greatest ones, what is surely needed, least stocks, and what can be told back."""

import random
import time
import unittest

from standinparts.allowances import Allowances
from standinparts.errors import BadDate, BadNumber, BadPart
from standinparts.lists import PartsList
from standinparts.making import dealing, most
from standinparts.needs import least_stock, stock_behind, surely_needed, told_back, uses
from standinparts.stocks import Stock
from tests import brute
from tests.odd import all_odd_values, odd_values
from tests.samples import some_book, some_counts, some_list, wide_book

EMPTY = Allowances()
SCREWS = Allowances([("screw", "bolt", 0, None)])
GREAT = 10 ** 30


def bolts(number, share=None, plain="bolt"):
    """A list of one place."""
    return PartsList([("x", plain, number, share)])


class ErrorsTest(unittest.TestCase):
    def calls(self, many):
        """The calls with what follows the date, in which a number of things stands."""
        stock = Stock()
        return [(uses, (stock, many)), (surely_needed, (stock, many)), (least_stock, (stock, many, "bolt")),
                (told_back, (many, stock, stock))]

    def test_bad_numbers_ahead_of_all(self):
        for value in odd_values() + [-1, GREAT + 1, "1", [], (), {}, [1]]:
            for call, more in self.calls(value) + [(least_stock, (Stock(), value, None))]:
                for date in (0, None):
                    with self.assertRaises(BadNumber) as caught:
                        call(bolts(1), EMPTY, date, *more)
                    self.assertIs(caught.exception.number, value)

    def test_numbers_at_their_limits(self):
        for many in (0, GREAT):
            for call, more in self.calls(many):
                call(bolts(1), EMPTY, 0, *more)

    def test_bad_dates(self):
        for value in all_odd_values() + ["0"]:
            for call, more in self.calls(0):
                with self.assertRaises(BadDate) as caught:
                    call(bolts(1), EMPTY, value, *more)
                self.assertIs(caught.exception.date, value)

    def test_bad_parts_ahead_of_bad_dates(self):
        for value in all_odd_values() + ["Bolt", "two words", "morethaneight"]:
            for date in (0, None):
                with self.assertRaises(BadPart) as caught:
                    least_stock(bolts(1), EMPTY, date, Stock(), 1, value)
                self.assertIs(caught.exception.part, value)

    def test_by_name(self):
        given = {"many": 2, "stock": Stock({"bolt": 3, "screw": 1}), "date": 0, "allowances": SCREWS,
                 "parts_list": bolts(2, 1)}
        self.assertEqual(uses(**given), {"bolt": (3, 3), "screw": (1, 1)})
        self.assertEqual(surely_needed(**given), ["bolt", "screw"])
        self.assertEqual(least_stock(part="bolt", **given), 3)
        del given["stock"]
        self.assertEqual(told_back(behind=Stock(), ahead=Stock({"bolt": 3, "screw": 1}), **given),
                         {("x", "bolt"): (3, 3), ("x", "screw"): (1, 1)})
        self.assertEqual(stock_behind(things=[(("x", ("bolt",)),)], ahead=Stock({"bolt": 1})), Stock())

    def test_nothing_changes(self):
        stock, behind = Stock({"bolt": 3, "screw": 1}), Stock({"bolt": 1})
        told = [uses(bolts(2, 1), SCREWS, 0, stock, 1), surely_needed(bolts(2, 1), SCREWS, 0, stock, 2),
                told_back(bolts(3), SCREWS, 0, 1, stock, behind)]
        for row in told:
            row.clear()
        least_stock(bolts(2, 1), SCREWS, 0, stock, 1, "bolt")
        self.assertEqual(uses(bolts(2, 1), SCREWS, 0, stock, 1), {"bolt": (1, 2), "screw": (0, 1)})
        self.assertEqual(surely_needed(bolts(2, 1), SCREWS, 0, stock, 2), ["bolt", "screw"])
        self.assertEqual([stock, behind], [Stock({"bolt": 3, "screw": 1}), Stock({"bolt": 1})])


class UsesTest(unittest.TestCase):
    def test_example(self):
        parts, book = PartsList([('x', 'bolt', 2, 1)]), Allowances([('screw', 'bolt', 0, None)])
        self.assertEqual(uses(parts, book, 0, Stock({'bolt': 3, 'screw': 1}), 2), {'bolt': (3, 3), 'screw': (1, 1)})

    def test_all_candidates_ascending(self):
        parts = PartsList([("x", "nut", 1, None), ("y", "bolt", 2, 0)])
        told = uses(parts, SCREWS, 0, Stock({"nut": 5, "bolt": 2, "zz": 9}), 1)
        self.assertEqual(list(told.items()), [("bolt", (2, 2)), ("nut", (1, 1)), ("screw", (0, 0))])

    def test_none_where_too_few_can_be_made(self):
        stock = Stock({"bolt": 3, "screw": 1})
        self.assertIsNone(uses(bolts(2, 1), SCREWS, 0, stock, 3))
        self.assertIsNone(surely_needed(bolts(2, 1), SCREWS, 0, stock, 3))
        self.assertIsNone(uses(bolts(2, 0), SCREWS, 0, stock, 2))

    def test_no_things(self):
        self.assertEqual(uses(bolts(2), SCREWS, 0, Stock(), 0), {"bolt": (0, 0), "screw": (0, 0)})
        self.assertEqual(uses(bolts(2), SCREWS, 0, Stock({"bolt": 5}), 0), {"bolt": (0, 0), "screw": (0, 0)})
        self.assertEqual(surely_needed(bolts(2), SCREWS, 0, Stock({"bolt": 5}), 0), [])

    def test_dates(self):
        book = Allowances([("screw", "bolt", 3, 5)])
        stock = Stock({"bolt": 3, "screw": 2})
        self.assertEqual([uses(bolts(2), book, date, stock, 1) for date in (2, 3, 6)],
                         [{"bolt": (2, 2)}, {"bolt": (0, 2), "screw": (0, 2)}, {"bolt": (2, 2)}])

    def test_parts_that_are_pushed_elsewhere(self):
        parts = PartsList([("x", "a", 1, None), ("y", "b", 1, None)])
        book = Allowances([("b", "a", 0, None), ("c", "b", 0, None)])
        self.assertEqual(uses(parts, book, 0, Stock({"a": 1, "b": 1, "c": 1}), 1),
                         {"a": (0, 1), "b": (0, 1), "c": (0, 1)})
        self.assertEqual(uses(parts, book, 0, Stock({"b": 1, "c": 1}), 1), {"a": (0, 0), "b": (1, 1), "c": (1, 1)})
        self.assertEqual(uses(parts, book, 0, Stock({"b": 2, "c": 1}), 1), {"a": (0, 0), "b": (1, 2), "c": (0, 1)})
        self.assertEqual(surely_needed(parts, book, 0, Stock({"b": 2, "c": 1}), 1), ["b"])

    def test_more_than_ten_candidates(self):
        book, parts = wide_book(12), PartsList([(letter, letter, 2, 1) for letter in "abcdefghijkl"])
        stock = Stock({**{letter: 2 for letter in "bcdefghijkl"}, "a": 1, "pc": 3})
        told = uses(parts, book, 0, stock, 1)
        self.assertEqual(len(told), 24)
        self.assertEqual(list(told), sorted(told))
        self.assertEqual([told["a"], told["b"], told["pa"], told["pc"]], [(1, 1), (2, 2), (0, 0), (1, 1)])
        self.assertEqual(surely_needed(parts, book, 0, stock, 1), sorted("abcdefghijkl") + ["pc"])

    def test_great_numbers(self):
        stock = Stock({"bolt": GREAT, "screw": GREAT})
        self.assertEqual(uses(bolts(1), SCREWS, 0, stock, GREAT), {"bolt": (0, GREAT), "screw": (0, GREAT)})
        self.assertEqual(uses(bolts(2), SCREWS, 0, stock, GREAT), {"bolt": (GREAT, GREAT), "screw": (GREAT, GREAT)})
        self.assertIsNone(uses(bolts(3), SCREWS, 0, stock, GREAT))
        third = GREAT // 3
        self.assertEqual(uses(bolts(3, 1), SCREWS, 0, stock, third),
                         {"bolt": (2 * third, 3 * third), "screw": (0, third)})
        stock = Stock({"bolt": GREAT, "screw": 5})
        self.assertEqual(uses(bolts(1), SCREWS, 0, stock, GREAT), {"bolt": (GREAT - 5, GREAT), "screw": (0, 5)})

    def test_against_all_dealings(self):
        chance = random.Random(51)
        kinds = set()
        for _ in range(300):
            book, parts = some_book(chance, "abcd", 6), some_list(chance, "abcd", 3, 2)
            date, counts = chance.randrange(4), some_counts(chance, "abcd", 5)
            for many in range(min(most(parts, book, date, Stock(counts)), 2) + 2):
                told = brute.uses(parts, book, date, counts, many)
                self.assertEqual(uses(parts, book, date, Stock(counts), many), told)
                needed = None if told is None else [part for part, (least, _) in told.items() if least > 0]
                self.assertEqual(surely_needed(parts, book, date, Stock(counts), many), needed)
                kinds.update([None] if told is None else
                             [(least > 0, least < greatest) for least, greatest in told.values()])
        self.assertEqual(len(kinds), 5)

    def test_as_for_each_stock_in_great_ones(self):
        # The least use is where fewer units than all but so many let be made; the greatest one is no more than there.
        chance = random.Random(52)
        for _ in range(60):
            book, parts = some_book(chance, "abcdefghij", 12), some_list(chance, "abcdefghij", 6, 99)
            counts = some_counts(chance, "abcdefghij", 10 ** chance.randrange(2, 28))
            stock = Stock(counts)
            many = most(parts, book, 0, stock) * chance.randrange(1, 5) // 4
            for part, (least, greatest) in uses(parts, book, 0, stock, many).items():
                fewer = Stock({**counts, part: least})
                self.assertGreaterEqual(most(parts, book, 0, fewer), many)
                if least > 0:
                    fewer[part] = least - 1
                    self.assertLess(most(parts, book, 0, fewer), many)
                self.assertTrue(least <= greatest <= stock[part])

    def test_calls_take_no_long_time(self):
        chance = random.Random(53)
        begin = time.process_time()
        for _ in range(100):
            book, parts = some_book(chance, "abc", 4), some_list(chance, "abc", 3, 3)
            stock = Stock(some_counts(chance, "abc", 9))
            uses(parts, book, 0, stock, 1)
            told_back(parts, book, 0, 1, stock, Stock())
        parts = PartsList([(letter, "ab"[k % 2], 999, 500) for k, letter in enumerate("abcdefghijkl")])
        book = Allowances([("p" + letter, "ab"[k % 2], 0, None) for k, letter in enumerate("abcdefghijkl")])
        stock = Stock({part: GREAT for part in brute.fitting(parts, book, 0)})
        uses(parts, book, 0, stock, GREAT // 999)
        many = 12 * 10 ** 6
        taken = {part: many // 12 * 500 for part in stock.parts() if len(part) == 2}
        told_back(parts, book, 0, many, Stock({**taken, "a": many * 6 * 999 - many // 2 * 500,
                                               "b": many * 6 * 999 - many // 2 * 500}), Stock())
        self.assertLess(time.process_time() - begin, 20)


class LeastStockTest(unittest.TestCase):
    def test_least(self):
        stock = Stock({"bolt": 1, "screw": 3})
        self.assertEqual([least_stock(bolts(2, 1), SCREWS, 0, stock, many, "bolt") for many in (0, 1, 2, 3, 4)],
                         [0, 1, 2, 3, 5])
        self.assertEqual([least_stock(bolts(2, 1), SCREWS, 0, stock, many, "screw") for many in (0, 1, 2)],
                         [0, 1, None])

    def test_parts_that_fit_nowhere(self):
        stock = Stock({"bolt": 2, "zz": 5})
        self.assertEqual([least_stock(bolts(2), EMPTY, 0, stock, many, "zz") for many in (0, 1, 2)], [0, 0, None])
        self.assertEqual([least_stock(bolts(2), EMPTY, 0, stock, many, "screw") for many in (0, 1, 2)], [0, 0, None])

    def test_what_is_in_stock_of_the_part_does_not_count(self):
        for count in (0, 1, 3, 99):
            self.assertEqual(least_stock(bolts(3), SCREWS, 0, Stock({"bolt": count, "screw": 4}), 2, "bolt"), 2)

    def test_great_numbers(self):
        self.assertEqual(least_stock(bolts(1), EMPTY, 0, Stock(), GREAT, "bolt"), GREAT)
        self.assertIsNone(least_stock(bolts(2), EMPTY, 0, Stock(), GREAT, "bolt"))
        self.assertIsNone(least_stock(bolts(1), EMPTY, 0, Stock(), GREAT, "screw"))
        half = GREAT // 2
        self.assertEqual(least_stock(bolts(2), EMPTY, 0, Stock(), half, "bolt"), GREAT)
        self.assertIsNone(least_stock(bolts(2), EMPTY, 0, Stock(), half + 1, "bolt"))
        self.assertEqual(least_stock(bolts(2), SCREWS, 0, Stock({"screw": 2}), half + 1, "bolt"), GREAT)
        self.assertIsNone(least_stock(bolts(2), SCREWS, 0, Stock({"screw": 1}), half + 1, "bolt"))
        self.assertEqual(least_stock(bolts(2), SCREWS, 0, Stock({"screw": GREAT}), GREAT, "bolt"), GREAT)
        self.assertIsNone(least_stock(bolts(999), EMPTY, 0, Stock(), GREAT, "bolt"))

    def test_against_all_numbers(self):
        chance = random.Random(54)
        told = set()
        for _ in range(150):
            book, parts = some_book(chance, "abc", 5), some_list(chance, "abc", 3, 2)
            date, counts = chance.randrange(4), some_counts(chance, "abc", 4)
            many, part = chance.randrange(3), chance.choice("abcd")
            able = [k for k in range(14) if brute.can_make(parts, book, date, {**counts, part: k}, many)]
            least = able[0] if able else None
            self.assertEqual(least_stock(parts, book, date, Stock(counts), many, part), least)
            told.add(least)
        self.assertTrue({None, 0, 1, 2, 3, 4} <= told)


class ToldBackTest(unittest.TestCase):
    def test_places_in_order_and_plain_parts_first(self):
        parts = PartsList([("y", "nut", 1, None), ("x", "bolt", 2, 1)])
        book = Allowances([("screw", "bolt", 0, None), ("ax", "bolt", 0, None), ("bolt", "nut", 0, None)])
        told = told_back(parts, book, 0, 1, Stock({"bolt": 3, "nut": 1}), Stock({"bolt": 1}))
        self.assertEqual(list(told.items()), [
            (("y", "nut"), (1, 1)), (("y", "bolt"), (0, 0)), (("x", "bolt"), (2, 2)), (("x", "ax"), (0, 0)),
            (("x", "screw"), (0, 0))])

    def test_what_can_have_gone_elsewhere(self):
        parts = PartsList([("x", "bolt", 2, None), ("y", "bolt", 1, None)])
        told = told_back(parts, SCREWS, 0, 1, Stock({"bolt": 2, "screw": 2}), Stock({"screw": 1}))
        self.assertEqual(told, {("x", "bolt"): (1, 2), ("x", "screw"): (0, 1), ("y", "bolt"): (0, 1),
                                ("y", "screw"): (0, 1)})

    def test_shares(self):
        parts = PartsList([("x", "bolt", 2, 1), ("y", "bolt", 2, None)])
        told = told_back(parts, SCREWS, 0, 2, Stock({"bolt": 4, "screw": 4}), Stock())
        self.assertEqual(told, {("x", "bolt"): (2, 4), ("x", "screw"): (0, 2), ("y", "bolt"): (0, 2),
                                ("y", "screw"): (2, 4)})

    def test_no_dealing_fits(self):
        ahead = Stock({"bolt": 3, "screw": 2, "zz": 2})
        parts = bolts(2, 1)
        self.assertIsNone(told_back(parts, SCREWS, 0, 1, ahead, ahead))
        self.assertIsNone(told_back(parts, SCREWS, 0, 1, ahead, Stock({"bolt": 2, "screw": 2, "zz": 2})))
        self.assertIsNone(told_back(parts, SCREWS, 0, 1, ahead, Stock({"screw": 2, "zz": 2})))
        self.assertIsNone(told_back(parts, SCREWS, 0, 1, ahead, Stock({"bolt": 3, "zz": 2})))
        self.assertIsNone(told_back(parts, SCREWS, 0, 1, ahead, Stock({"bolt": 3, "screw": 2})))
        self.assertIsNone(told_back(parts, SCREWS, 0, 1, ahead, Stock({"bolt": 1, "screw": 2, "zz": 1})))
        self.assertIsNotNone(told_back(parts, SCREWS, 0, 1, ahead, Stock({"bolt": 1, "screw": 2, "zz": 2})))

    def test_something_came(self):
        ahead = Stock({"bolt": 3, "screw": 2})
        for behind in [Stock({"bolt": 1, "screw": 3}), Stock({"bolt": 4, "screw": 2}), Stock({"zz": 1, "bolt": 3}),
                       Stock({"bolt": 1, "screw": 2, "zz": 1})]:
            self.assertIsNone(told_back(bolts(2, 1), SCREWS, 0, 1, ahead, behind))
            self.assertIsNone(told_back(bolts(2, 1), SCREWS, 0, 0, ahead, behind))

    def test_no_things(self):
        ahead = Stock({"bolt": 3, "zz": 2})
        self.assertEqual(told_back(bolts(2, 1), SCREWS, 0, 0, ahead, ahead.copy()),
                         {("x", "bolt"): (0, 0), ("x", "screw"): (0, 0)})
        self.assertIsNone(told_back(bolts(2, 1), SCREWS, 0, 0, ahead, Stock({"bolt": 3})))

    def test_great_numbers(self):
        parts = PartsList([("x", "bolt", 1, None), ("y", "bolt", 1, None)])
        told = told_back(parts, SCREWS, 0, GREAT, Stock({"bolt": GREAT, "screw": GREAT}), Stock())
        self.assertEqual(list(told.values()), [(0, GREAT)] * 4)
        told = told_back(parts, SCREWS, 0, GREAT // 2, Stock({"bolt": GREAT, "screw": 7}), Stock({"bolt": 7}))
        self.assertEqual(told[("x", "bolt")], (GREAT // 2 - 7, GREAT // 2))
        self.assertEqual(told[("y", "screw")], (0, 7))

    def test_more_than_ten_candidates(self):
        parts = PartsList([(letter, letter, 2, 1) for letter in "abcdefghijkl"])
        ahead = Stock({**{letter: 2 for letter in "bcdefghijkl"}, "a": 1, "pc": 1})
        told = told_back(parts, wide_book(12), 0, 1, ahead, Stock())
        self.assertEqual(len(told), 24)
        self.assertEqual([told[("a", "a")], told[("a", "pc")], told[("a", "pa")], told[("l", "l")]],
                         [(1, 1), (1, 1), (0, 0), (2, 2)])

    def test_against_all_dealings(self):
        chance = random.Random(55)
        kinds = set()
        for _ in range(250):
            book, parts = some_book(chance, "abcd", 6), some_list(chance, "abcd", 3, 2)
            date, many = chance.randrange(4), chance.randrange(5 - len(parts))
            total = chance.choice(sorted(brute.totals(parts, book, date, many)))
            taken = brute.units_of(total)
            if chance.random() < 0.3:
                part = chance.choice("abcd")
                taken[part] = max(0, taken.get(part, 0) + chance.choice([-1, 1]))
            behind = some_counts(chance, "abcd", 3)
            ahead = {part: behind[part] + taken.get(part, 0) for part in "abcd"}
            told = told_back(parts, book, date, many, Stock(ahead), Stock(behind))
            right = brute.told_back(parts, book, date, many, ahead, behind)
            self.assertEqual(told, right)
            kinds.update([None] if told is None else
                         [(least > 0, least < greatest) for least, greatest in told.values()])
            if told is not None:
                self.assertEqual(list(told), list(right))
        self.assertEqual(len(kinds), 5)


class StockBehindTest(unittest.TestCase):
    def test_behind(self):
        ahead = Stock({"bolt": 3, "screw": 2, "nut": 1})
        things = [(("x", ("bolt", "screw")),), (("x", ("bolt", "bolt")),)]
        self.assertEqual(stock_behind(ahead, things), Stock({"screw": 1, "nut": 1}))
        self.assertEqual(stock_behind(ahead, tuple(things)), Stock({"screw": 1, "nut": 1}))
        self.assertEqual(stock_behind(ahead, []), ahead)
        self.assertEqual(ahead, Stock({"bolt": 3, "screw": 2, "nut": 1}))

    def test_another_stock_each_time(self):
        ahead = Stock({"bolt": 3})
        behind = stock_behind(ahead, [])
        behind["bolt"] = 9
        self.assertEqual(ahead["bolt"], 3)

    def test_great_stocks(self):
        self.assertEqual(stock_behind(Stock({"bolt": GREAT}), [(("x", ("bolt",) * 3),)]), Stock({"bolt": GREAT - 3}))

    def test_dealings_are_among_what_is_told(self):
        chance = random.Random(56)
        for _ in range(100):
            book, parts = some_book(chance, "abcd", 6), some_list(chance, "abcd", 3, 3)
            ahead = Stock(some_counts(chance, "abcd", 9))
            many = min(most(parts, book, 0, ahead), 20)
            things = dealing(parts, book, 0, ahead, many)
            behind = stock_behind(ahead, things)
            told, used = told_back(parts, book, 0, many, ahead, behind), uses(parts, book, 0, ahead, many)
            for word, part in told:
                units = sum(filled.count(part) for thing in things for name, filled in thing if name == word)
                self.assertTrue(told[(word, part)][0] <= units <= told[(word, part)][1])
            for part, (least, greatest) in used.items():
                self.assertTrue(least <= ahead[part] - behind[part] <= greatest)


if __name__ == "__main__":
    unittest.main()
