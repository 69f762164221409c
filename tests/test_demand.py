"""Demands."""

import random
import unittest
from itertools import product

from standinparts.allowances import Allowances
from standinparts.demand import Demand
from standinparts.errors import BadAllowances, BadDate, BadList, TooMany
from standinparts.lists import PartsList
from standinparts.making import most
from standinparts.stocks import Stock
from tests import brute
from tests.odd import all_odd_values
from tests.samples import some_book, some_list, wide_book

EMPTY = Allowances()


def bolts(number, share=None, plain="bolt"):
    """A list of one place."""
    return PartsList([("x", plain, number, share)])


class MakingDemandsTest(unittest.TestCase):
    def test_errors_in_their_order(self):
        parts = bolts(1)
        for value in all_odd_values() + [parts.places(), EMPTY]:
            with self.assertRaises(BadList) as caught:
                Demand(value, None, None)
            self.assertIs(caught.exception.value, value)
        for value in all_odd_values() + [EMPTY.rows(), parts]:
            with self.assertRaises(BadAllowances) as caught:
                Demand(parts, value, None)
            self.assertIs(caught.exception.value, value)
        for value in all_odd_values() + ["0"]:
            with self.assertRaises(BadDate) as caught:
                Demand(bolts(1, None, "a"), wide_book(12), value)
            self.assertIs(caught.exception.date, value)

    def test_ten_and_eleven(self):
        for many, parts in [(9, bolts(1, None, "a")), (8, PartsList([("x", "a", 1, 0), ("y", "zz", 1, None)]))]:
            self.assertEqual(len(Demand(parts, wide_book(many), 0).parts()), 10)
            with self.assertRaises(TooMany) as caught:
                Demand(parts, wide_book(many + 1), 0)
            self.assertEqual(caught.exception.limit, 10)
        twelve = PartsList([(letter, letter, 1, None) for letter in "abcdefghijkl"])
        with self.assertRaises(TooMany) as caught:
            Demand(twelve, EMPTY, 0)
        self.assertEqual(caught.exception.limit, 10)

    def test_only_what_fits_at_the_date_counts(self):
        book = Allowances([("p" + letter, "a", 5, None) for letter in "abcdefghijkl"])
        self.assertEqual(Demand(bolts(1, None, "a"), book, 4).parts(), ["a"])
        self.assertEqual(Demand(bolts(1), book, 5).parts(), ["bolt"])
        with self.assertRaises(TooMany):
            Demand(bolts(1, None, "a"), book, 5)

    def test_by_name(self):
        demand = Demand(date=0, allowances=EMPTY, parts_list=bolts(2))
        self.assertEqual(demand(parts=("bolt",)), 2)

    def test_no_iteration(self):
        with self.assertRaises(TypeError):
            list(Demand(bolts(1), EMPTY, 0))


class DemandsTest(unittest.TestCase):
    def setUp(self):
        self.book = Allowances([("screw", "bolt", 0, None)])

    def test_example(self):
        demand = Demand(bolts(2, 1), self.book, 0)
        self.assertEqual([demand(["bolt"]), demand(["screw"]), demand(["bolt", "screw"])], [1, 0, 2])
        self.assertEqual(demand.table(), {('bolt',): 1, ('bolt', 'screw'): 2})

    def test_shares(self):
        for share, alone in [(None, 0), (0, 3), (1, 2), (2, 1), (3, 0)]:
            demand = Demand(bolts(3, share), self.book, 0)
            self.assertEqual([demand(("bolt",)), demand(("screw",)), demand(("screw", "bolt"))], [alone, 0, 3])
            self.assertEqual(Demand(bolts(3, share), EMPTY, 0)(("bolt",)), 3)

    def test_sets_as_lists_and_tuples(self):
        demand = Demand(bolts(2, 1), self.book, 0)
        for parts, units in [([], 0), ((), 0), (["screw", "bolt"], 2), (("bolt", "bolt"), 1),
                             (["nut", "bolt", "zz"], 1), (["nut"], 0), (("zz", "screw", "bolt", "a", "bolt"), 2)]:
            self.assertEqual(demand(parts), units)
        given = ["screw", "bolt"]
        demand(given)
        self.assertEqual(given, ["screw", "bolt"])

    def test_parts(self):
        parts = PartsList([("x", "nut", 1, None), ("y", "bolt", 2, 0), ("z", "nut", 1, None)])
        demand = Demand(parts, self.book, 0)
        self.assertEqual(demand.parts(), ["bolt", "nut", "screw"])
        demand.parts().clear()
        self.assertEqual(demand.parts(), ["bolt", "nut", "screw"])

    def test_table_in_order(self):
        book = Allowances([("c", "a", 0, None), ("b", "a", 0, None), ("a", "d", 0, None)])
        parts = PartsList([("x", "a", 5, 2), ("y", "d", 1, None), ("z", "c", 1, 0)])
        table = Demand(parts, book, 0).table()
        self.assertEqual(list(table.items()), [
            (("a",), 3), (("c",), 1), (("a", "b"), 3), (("a", "c"), 4), (("a", "d"), 4), (("b", "c"), 1),
            (("c", "d"), 1), (("a", "b", "c"), 6), (("a", "b", "d"), 4), (("a", "c", "d"), 5), (("b", "c", "d"), 1),
            (("a", "b", "c", "d"), 7)])

    def test_table_is_new(self):
        demand = Demand(bolts(2, 1), self.book, 0)
        demand.table().clear()
        self.assertEqual(len(demand.table()), 2)

    def test_great_table(self):
        table = Demand(bolts(999, 1, "a"), wide_book(9), 0).table()
        self.assertEqual(len(table), 512)
        self.assertEqual(sorted(table, key=lambda few: (len(few), few)), list(table))
        self.assertEqual([list(table.values()).count(units) for units in (998, 999)], [511, 1])

    def test_parts_at_several_places_are_needed_several_times(self):
        parts = PartsList([("x", "bolt", 2, None), ("y", "bolt", 3, 1), ("z", "screw", 1, None)])
        self.assertEqual(Demand(parts, self.book, 0).table(), {("bolt",): 2, ("screw",): 1, ("bolt", "screw"): 6})

    def test_against_the_definition(self):
        chance = random.Random(12)
        for _ in range(200):
            book, parts = some_book(chance, "abcde", 9), some_list(chance, "abcde", 4, 5)
            for date in (0, 2, 4):
                demand = Demand(parts, book, date)
                fitting = brute.fitting(parts, book, date)
                self.assertEqual(demand.parts(), fitting)
                for chosen in brute.all_sets("abcdef"):
                    self.assertEqual(demand(chosen), brute.demand(parts, book, date, chosen))
                told = {chosen: brute.demand(parts, book, date, chosen) for chosen in brute.all_sets(fitting)}
                table = [(chosen, units) for chosen, units in told.items() if units > 0]
                self.assertEqual(list(demand.table().items()), table)


class ComparedTest(unittest.TestCase):
    def setUp(self):
        self.book = Allowances([("screw", "bolt", 0, None)])

    def test_equal(self):
        one = Demand(bolts(2, 1), self.book, 0)
        self.assertIs(one == Demand(PartsList([("a", "bolt", 1, 0), ("b", "bolt", 1, None)]), self.book, 7), True)
        self.assertIs(one != Demand(bolts(2, 1), self.book, 0), False)
        for other in [Demand(bolts(2, 0), self.book, 0), Demand(bolts(2), self.book, 0), Demand(bolts(2, 1), EMPTY, 0),
                      Demand(bolts(3, 1), self.book, 0), Demand(bolts(2, 1, "screw"), self.book, 0)]:
            self.assertIs(one == other, False)
            self.assertIs(one != other, True)

    def test_equal_with_parts_that_are_never_taken(self):
        one, other = Demand(bolts(2, 0), self.book, 0), Demand(bolts(2), EMPTY, 0)
        self.assertNotEqual(one.parts(), other.parts())
        self.assertIs(one == other, True)
        self.assertIs(other == one, True)
        self.assertIs(one <= other and other <= one, True)

    def test_full_shares_are_none(self):
        self.assertIs(Demand(bolts(2, 2), self.book, 0) == Demand(bolts(2), self.book, 0), True)

    def test_not_equal_to_another_class(self):
        demand = Demand(bolts(1), EMPTY, 0)
        for value in all_odd_values() + [demand.table(), bolts(1)]:
            self.assertIs(demand == value, False)

    def test_at_most(self):
        one, free, bound = [Demand(bolts(2, share), self.book, 0) for share in (1, None, 0)]
        self.assertEqual([free <= one, one <= bound, free <= bound, one <= one], [True] * 4)
        self.assertEqual([one <= free, bound <= one, bound <= free], [False] * 3)
        nuts = Demand(bolts(1, None, "nut"), EMPTY, 0)
        self.assertEqual([nuts <= one, one <= nuts], [False, False])
        both = Demand(bolts(1, None, "nut") + PartsList([("y", "bolt", 2, 1)]), self.book, 0)
        self.assertEqual([nuts <= both, one <= both, both <= nuts, both <= one], [True, True, False, False])
        for low, high in [(nuts, both), (both, nuts)]:
            self.assertIs(low <= high, high >= low)

    def test_at_most_with_ten_parts_each(self):
        one = Demand(bolts(3, 1, "a"), wide_book(9), 0)
        other = Demand(bolts(1, None, "b"), Allowances([("q" + letter, "b", 0, None) for letter in "abcdefghi"]), 0)
        both = Demand(bolts(3, None, "a"), wide_book(9), 0)
        self.assertEqual([one <= other, other <= one, both <= one, one <= both], [False, False, True, False])

    def test_against_all_sets(self):
        chance = random.Random(13)
        truths = []
        for _ in range(1500):
            rows = [(some_list(chance, "abcd", 2, 2), some_book(chance, "abcd", 5), chance.randrange(4))
                    for _ in range(2)]
            one, other = Demand(*rows[0]), Demand(*rows[1])
            pairs = [(one(chosen), other(chosen)) for chosen in brute.all_sets("abcd")]
            equal = all(low == high for low, high in pairs)
            self.assertIs(one == other, equal)
            self.assertIs(one <= other, all(low <= high for low, high in pairs))
            truths.append((one == other, one <= other))
        self.assertEqual(sorted(set(truths)), [(False, False), (False, True), (True, True)])

    def test_what_comparing_tells_of_all_stocks(self):
        chance = random.Random(14)
        truths = []
        for _ in range(150):
            rows = [(some_list(chance, "abc", 2, 2), some_book(chance, "abc", 4), chance.randrange(4))
                    for _ in range(2)]
            one, other = Demand(*rows[0]), Demand(*rows[1])
            stocks = [Stock(dict(zip("abc", counts))) for counts in product(range(5), repeat=3)]
            pairs = [(most(*rows[0], stock), most(*rows[1], stock)) for stock in stocks]
            self.assertIs(one == other, all(mine == others for mine, others in pairs))
            self.assertIs(one <= other, all(mine >= others for mine, others in pairs))
            truths.append((one == other, one <= other))
        self.assertEqual(sorted(set(truths)), [(False, False), (False, True), (True, True)])


if __name__ == "__main__":
    unittest.main()
