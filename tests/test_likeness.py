"""Likeness: which demands are under others, and from when on lists are alike."""

import random
import time
import unittest
from itertools import product

from standinparts.allowances import Allowances
from standinparts.demand import Demand
from standinparts.errors import TooMany
from standinparts.likeness import alike_dates, are_alike, evidence, first_unlike, greater_set, is_under
from standinparts.lists import PartsList
from standinparts.making import most
from standinparts.stocks import Stock
from tests import brute
from tests.samples import some_book, some_list, wide_book

EMPTY = Allowances()
SCREWS = Allowances([("screw", "bolt", 0, None)])
CALLS = (is_under, are_alike, greater_set, evidence)


def bolts(number, share=None, plain="bolt"):
    """A list of one place."""
    return PartsList([("x", plain, number, share)])


def demand(number, share=None, plain="bolt", book=SCREWS):
    """The demand of a list of one place."""
    return Demand(bolts(number, share, plain), book, 0)


def some_pair(chance, parts, places):
    """Two lists with books and dates, often nearly the same."""
    rows = []
    for _ in range(2):
        rows.append((some_list(chance, parts, places, 2), some_book(chance, parts, 4), chance.randrange(4)))
    way = chance.randrange(3)
    if way > 0:
        first, book, date = rows[0]
        shuffled = first.places()
        chance.shuffle(shuffled)
        if way == 1:
            # The same allowances but one or two.
            left = book.rows()[chance.randrange(3):]
            rows[1] = (PartsList(shuffled), Allowances(left, through=book.through), date)
        else:
            rows[1] = (PartsList(shuffled), book, chance.randrange(4))
    return rows


class UnderTest(unittest.TestCase):
    def test_under(self):
        free, one, bound = demand(2), demand(2, 1), demand(2, 0)
        self.assertEqual([is_under(free, one), is_under(one, bound), is_under(free, free)], [True] * 3)
        self.assertEqual([is_under(one, free), is_under(bound, one), is_under(bound, free)], [False] * 3)
        self.assertEqual([is_under(demand(1), demand(1, None, "nut")), is_under(demand(1, None, "nut"), demand(1))],
                         [False, False])

    def test_alike(self):
        other = Demand(PartsList([("a", "bolt", 1, 0), ("b", "bolt", 1, None)]), SCREWS, 7)
        self.assertEqual([are_alike(demand(2, 1), other), are_alike(demand(2), other), are_alike(other, demand(2, 0))],
                         [True, False, False])
        self.assertIs(are_alike(demand(2, 0), demand(2, None, "bolt", EMPTY)), True)
        self.assertIs(are_alike(demand(2, 2), demand(2)), True)

    def test_greater_sets(self):
        self.assertIsNone(greater_set(demand(2), demand(2)))
        self.assertIsNone(greater_set(demand(2), demand(2, 1)))
        self.assertEqual(greater_set(demand(2, 1), demand(2)), ("bolt",))
        self.assertEqual(greater_set(demand(3), demand(2)), ("bolt", "screw"))
        self.assertEqual(greater_set(demand(3), demand(2, 0)), ("bolt", "screw"))
        self.assertEqual(greater_set(demand(1, None, "nut"), demand(2, 0)), ("nut",))

    def test_fewer_parts_first_then_ascending(self):
        one = Demand(PartsList([("x", "d", 1, None), ("y", "c", 1, None), ("z", "b", 1, None)]),
                     Allowances([("a", "b", 0, None), ("a", "c", 0, None)]), 0)
        parts = [PartsList([("x", "d", 1, None)]), PartsList([("x", "d", 1, None), ("y", "b", 1, 0)])]
        self.assertEqual(greater_set(one, demand(1)), ("d",))
        self.assertEqual(greater_set(one, Demand(parts[0], EMPTY, 0)), ("a", "b"))
        self.assertEqual(greater_set(one, Demand(parts[1], EMPTY, 0)), ("a", "c"))

    def test_evidence(self):
        self.assertIsNone(evidence(demand(2), demand(2, 1)))
        self.assertEqual(evidence(demand(2, 1), demand(2)), Stock({"screw": 2}))
        for one, other in [(demand(3), demand(2)), (demand(1, None, "nut"), demand(2, 1)),
                           (demand(999, 998), demand(999, 999))]:
            stock = evidence(one, other)
            self.assertIsInstance(stock, Stock)
            for made, many in [(one, 0), (other, 1)]:
                few = [parts for parts, units in made.table().items() if stock.total(parts) < units]
                self.assertIs(few == [], many == 1)

    def test_ten_candidates_and_eleven_of_both(self):
        one, other = demand(1, None, "a", wide_book(5)), demand(1, None, "a", Allowances(
            [("q" + letter, "a", 0, None) for letter in "abcd"]))
        for call in CALLS:
            call(one, other)
            call(other, one)
        more = demand(1, None, "a", wide_book(6))
        same = demand(1, None, "a", Allowances([*wide_book(4).rows(), *[("q" + k, "a", 0, None) for k in "abcde"]]))
        for call in CALLS:
            for pair in [(more, other), (other, more), (same, more), (demand(1), demand(1, None, "a", wide_book(9)))]:
                with self.assertRaises(TooMany) as caught:
                    call(*pair)
                self.assertEqual(caught.exception.limit, 10)
            call(same, same)

    def test_candidates_that_are_never_taken_count(self):
        bound = Demand(bolts(1, 0, "a"), wide_book(9), 0)
        for call in CALLS:
            with self.assertRaises(TooMany):
                call(bound, demand(1))

    def test_by_name(self):
        given = {"other": demand(2), "one": demand(2, 1)}
        self.assertEqual([call(**given) for call in CALLS], [False, False, ("bolt",), Stock({"screw": 2})])

    def test_against_all_stocks(self):
        chance = random.Random(61)
        truths = []
        stocks = [Stock(dict(zip("abc", counts))) for counts in product(range(5), repeat=3)]
        for _ in range(150):
            rows = some_pair(chance, "abc", 2)
            one, other = Demand(*rows[0]), Demand(*rows[1])
            pairs = [(most(*rows[0], stock), most(*rows[1], stock)) for stock in stocks]
            under = all(mine >= others for mine, others in pairs)
            self.assertIs(is_under(one, other), under)
            self.assertIs(are_alike(one, other), all(mine == others for mine, others in pairs))
            stock = evidence(one, other)
            self.assertIs(stock is None, under)
            if stock is not None:
                counts = {part: stock[part] for part in stock.parts()}
                self.assertFalse(brute.can_make(*rows[0], counts, 1))
                self.assertTrue(brute.can_make(*rows[1], counts, 1))
            truths.append((under, are_alike(one, other)))
        self.assertEqual(sorted(set(truths)), [(False, False), (True, False), (True, True)])

    def test_greater_sets_against_all_sets(self):
        chance = random.Random(62)
        sizes = set()
        for _ in range(400):
            rows = some_pair(chance, "abcde", 4)
            greater = [few for few in brute.all_sets("abcde")
                       if brute.demand(*rows[0], few) > brute.demand(*rows[1], few)]
            first = greater[0] if greater else None
            self.assertEqual(greater_set(Demand(*rows[0]), Demand(*rows[1])), first)
            stock = evidence(Demand(*rows[0]), Demand(*rows[1]))
            self.assertIs(stock is None, first is None)
            if stock is not None:
                self.assertEqual(most(*rows[0], stock), 0)
                self.assertGreaterEqual(most(*rows[1], stock), 1)
            sizes.add(first and len(first))
        self.assertTrue({None, 1, 2, 3} <= sizes)


class DatesTest(unittest.TestCase):
    def test_dates_of_either(self):
        book, other_book = Allowances([("screw", "bolt", 5, 8)]), Allowances([("screw", "bolt", 5, 9)])
        told = alike_dates(bolts(2), book, bolts(2), other_book)
        self.assertEqual(told, [(0, True), (5, True), (9, False), (10, True)])
        self.assertEqual(first_unlike(bolts(2), book, bolts(2), other_book), 9)

    def test_alike_at_all_dates(self):
        other = PartsList([("y", "bolt", 1, None), ("z", "bolt", 1, None)])
        self.assertEqual(alike_dates(bolts(2), SCREWS, other, SCREWS), [(0, True)])
        self.assertIsNone(first_unlike(bolts(2), SCREWS, other, SCREWS))
        self.assertEqual(alike_dates(bolts(2), EMPTY, bolts(2, 0), SCREWS), [(0, True)])

    def test_unlike_from_the_beginning_and_at_the_end(self):
        self.assertEqual(alike_dates(bolts(2), EMPTY, bolts(3), EMPTY), [(0, False)])
        self.assertEqual(first_unlike(bolts(2), EMPTY, bolts(3), EMPTY), 0)
        late = Allowances([("screw", "bolt", 9999, 9999)])
        self.assertEqual(alike_dates(bolts(2), EMPTY, bolts(2), late), [(0, True), (9999, False)])
        self.assertEqual(first_unlike(bolts(2), late, bolts(2), EMPTY), 9999)

    def test_candidates_of_others_change(self):
        # Dates at which nothing of the lists changes are told, too.
        book = Allowances([("nut", "nail", 3, 4)])
        self.assertEqual(alike_dates(bolts(1), book, bolts(1), EMPTY), [(0, True), (3, True), (5, True)])

    def test_too_many_at_later_dates(self):
        rows = [("p" + letter, "a", 9, None) for letter in "abcdefghij"]
        one, other = bolts(1, None, "a"), bolts(2, None, "a")
        for call in (alike_dates, first_unlike):
            for lists in [(one, Allowances(rows), other, EMPTY), (one, EMPTY, other, Allowances(rows)),
                          (one, Allowances(rows[:6]), other, Allowances([("q" + k, "a", 9, None) for k in "abcd"]))]:
                with self.assertRaises(TooMany) as caught:
                    call(*lists)
                self.assertEqual(caught.exception.limit, 10)
            call(one, Allowances(rows[:9]), other, Allowances(rows[:9]))
        self.assertEqual(first_unlike(one, Allowances(rows[:9]), other, EMPTY), 0)

    def test_by_name_and_new(self):
        given = {"other_allowances": EMPTY, "other": bolts(2), "its_allowances": SCREWS, "one": bolts(2)}
        alike_dates(**given).clear()
        self.assertEqual(alike_dates(**given), [(0, False)])
        self.assertEqual(first_unlike(**given), 0)

    def test_against_each_date(self):
        chance = random.Random(63)
        firsts = set()
        for _ in range(500):
            (one, book, _), (other, other_book, _) = some_pair(chance, "abc", 3)
            told = alike_dates(one, book, other, other_book)
            self.assertEqual([date for date, _ in told], sorted(set(book.dates() + other_book.dates())))
            unlike = []
            for date in range(12):
                alike = all(brute.demand(one, book, date, few) == brute.demand(other, other_book, date, few)
                            for few in brute.all_sets("abc"))
                self.assertIs([truth for since, truth in told if since <= date][-1], alike)
                unlike.extend([] if alike else [date])
            first = first_unlike(one, book, other, other_book)
            self.assertEqual(first, unlike[0] if unlike else None)
            firsts.add(first)
        self.assertTrue({None, 0, 1, 2, 3} <= firsts, firsts)

    def test_calls_take_no_long_time(self):
        begin = time.process_time()
        chance = random.Random(64)
        parts = PartsList([(letter, "abcdefghij"[k % 10], 9, 5) for k, letter in enumerate("abcdefghijkl")])
        for _ in range(5):
            alike_dates(parts, some_book(chance, "abcdefghij", 12), parts, some_book(chance, "abcdefghij", 12))
        self.assertLess(time.process_time() - begin, 20)


if __name__ == "__main__":
    unittest.main()
