"""Allowances to give: menus, least choices and gains."""

import random
import time
import unittest

from standinparts.allowances import Allowances
from standinparts.errors import BadDate, BadMenu, BadNumber, TooMany
from standinparts.given import gain_of, least_given
from standinparts.lists import PartsList
from standinparts.stocks import Stock
from tests import brute
from tests.odd import all_odd_values, odd_values
from tests.samples import some_book, some_counts, some_list, some_menu, wide_book

EMPTY = Allowances()
GREAT = 10 ** 30
SCREW, NAIL, PIN = ("screw", "bolt", 0, None), ("nail", "bolt", 0, None), ("pin", "nail", 0, None)


def bolts(number, share=None, plain="bolt"):
    """A list of one place."""
    return PartsList([("x", plain, number, share)])


def added(book, rows):
    """The book with some more allowances."""
    return Allowances(book.rows() + list(rows), through=book.through)


class ErrorsTest(unittest.TestCase):
    def calls(self, menu, many=1):
        """The two calls with their last arguments."""
        return [(least_given, (menu, many)), (gain_of, (menu,))]

    def check(self, index, menu, book=EMPTY, many=None):
        """That both raise BadMenu, ahead of bad numbers and bad dates."""
        for call, more in self.calls(menu, many):
            with self.assertRaises(BadMenu) as caught:
                call(bolts(1), book, None, Stock(), *more)
            self.assertIs(caught.exception.index, index)

    def test_no_menus(self):
        for value in odd_values() + [{}, {SCREW: 1}, 7, "screw", [], (), Allowances([SCREW]), iter([SCREW])]:
            self.check(None, value)
        seven = [("p" + letter, "bolt", 0, None) for letter in "abcdefg"]
        self.check(None, seven)
        self.check(None, [None] * 7)

    def test_one_and_six(self):
        rows = [("p" + letter, "bolt", 0, None) for letter in "abcdef"]
        for menu in [rows[:1], rows, tuple(rows)]:
            self.assertEqual(gain_of(bolts(1), EMPTY, 0, Stock({"pa": 2}), menu)[0], 2)
            self.assertEqual(least_given(bolts(1), EMPTY, 0, Stock({"pa": 2}), menu, 2), [(0,)])

    def test_entries_that_are_no_allowances(self):
        wrong = [list(SCREW), ("bolt", "bolt", 0, None), ("screw", "bolt", 5, 4), ("screw", "bolt", True, None),
                 ("screw", "bolt", 0), (*SCREW, None)]
        for value in all_odd_values() + wrong:
            self.check(0, [value])
            self.check(0, [value, SCREW])
            self.check(1, [SCREW, value])
            self.check(2, (SCREW, NAIL, value, value))

    def test_entries_that_are_there(self):
        self.check(0, [SCREW], Allowances([SCREW]))
        self.check(1, [NAIL, SCREW, None], Allowances([SCREW, PIN]))
        least_given(bolts(1), Allowances([("screw", "bolt", 0, 9)]), 0, Stock(), [SCREW], 0)

    def test_entries_that_are_twice(self):
        self.check(1, [SCREW, SCREW])
        self.check(2, [SCREW, NAIL, SCREW, NAIL])
        self.check(1, [SCREW, SCREW, None])

    def test_bad_numbers_behind_bad_menus(self):
        for value in odd_values() + [-1, GREAT + 1, "1", [], (), {}]:
            for book, menu, date in [(EMPTY, [SCREW], None), (wide_book(12), [SCREW], 0), (EMPTY, [SCREW], 0)]:
                with self.assertRaises(BadNumber) as caught:
                    least_given(bolts(1, None, "a"), book, date, Stock(), menu, value)
                self.assertIs(caught.exception.number, value)

    def test_twelve_allowances_and_thirteen_together(self):
        menu = [SCREW, NAIL, ("a", "b", 0, None), ("a", "b", 1, None)]
        for call, more in self.calls(menu):
            call(bolts(1), wide_book(8), 0, Stock(), *more)
            with self.assertRaises(TooMany) as caught:
                call(bolts(1), wide_book(9), None, Stock(), *more)
            self.assertEqual(caught.exception.limit, 12)

    def test_bad_dates(self):
        for value in all_odd_values() + ["0"]:
            for call, more in self.calls([SCREW]):
                with self.assertRaises(BadDate) as caught:
                    call(bolts(1, None, "a"), wide_book(10), value, Stock(), *more)
                self.assertIs(caught.exception.date, value)

    def test_ten_candidates_and_eleven_with_all(self):
        menu = [("pk", "a", 0, None), ("pl", "a", 3, None)]
        for call, more in self.calls(menu):
            call(bolts(1, None, "a"), wide_book(8), 2, Stock(), *more)
            for book, date in [(wide_book(9), 2), (wide_book(8), 3)]:
                with self.assertRaises(TooMany) as caught:
                    call(bolts(1, None, "a"), book, date, Stock(), *more)
                self.assertEqual(caught.exception.limit, 10)
        # Also where no allowance is needed, so that all of the menu need not be tried.
        with self.assertRaises(TooMany) as caught:
            least_given(bolts(1, None, "a"), wide_book(9), 2, Stock({"a": 1}), menu, 0)
        self.assertEqual(caught.exception.limit, 10)

    def test_by_name_and_nothing_kept(self):
        menu = [SCREW, NAIL]
        given = {"menu": menu, "stock": Stock({"screw": 2, "nail": 2}), "date": 0, "allowances": EMPTY,
                 "parts_list": bolts(2)}
        self.assertEqual(gain_of(**given), (2, [1, 1]))
        self.assertEqual(least_given(many=1, **given), [(0,), (1,)])
        least_given(many=1, **given).clear()
        gain_of(**given)[1].clear()
        self.assertEqual(gain_of(**given), (2, [1, 1]))
        self.assertEqual(least_given(many=1, **given), [(0,), (1,)])
        self.assertEqual([menu, given["stock"], len(EMPTY)], [[SCREW, NAIL], Stock({"screw": 2, "nail": 2}), 0])


class LeastGivenTest(unittest.TestCase):
    def test_fewer_first_then_ascending(self):
        stock = Stock({"bolt": 1, "screw": 1, "nail": 1, "pin": 2})
        menu = [SCREW, NAIL, ("pin", "bolt", 0, None)]
        told = [least_given(bolts(1), EMPTY, 0, stock, menu, many) for many in range(7)]
        self.assertEqual(told, [[()], [()], [(0,), (1,), (2,)], [(2,), (0, 1)], [(0, 2), (1, 2)], [(0, 1, 2)], []])

    def test_through(self):
        menu = [PIN, NAIL]
        stock = Stock({"pin": 1})
        self.assertEqual(least_given(bolts(1), EMPTY, 0, stock, menu, 1), [])
        self.assertEqual(least_given(bolts(1), Allowances(through=True), 0, stock, menu, 1), [(0, 1)])
        self.assertEqual(least_given(bolts(1), Allowances([NAIL], through=True), 0, stock, [PIN], 1), [(0,)])

    def test_dates(self):
        menu = [("screw", "bolt", 3, 5), ("screw", "bolt", 5, None)]
        told = [least_given(bolts(1), EMPTY, date, Stock({"screw": 1}), menu, 1) for date in (2, 3, 5, 6)]
        self.assertEqual(told, [[], [(0,)], [(0,), (1,)], [(1,)]])

    def test_great_numbers(self):
        stock = Stock({"bolt": GREAT - 1, "screw": 1, "nail": GREAT})
        self.assertEqual(least_given(bolts(1), EMPTY, 0, stock, [SCREW, NAIL], GREAT), [(0,), (1,)])
        self.assertEqual(least_given(bolts(2), EMPTY, 0, stock, [SCREW, NAIL], GREAT), [(0, 1)])
        self.assertEqual(least_given(bolts(3), EMPTY, 0, stock, [SCREW, NAIL], GREAT), [])
        self.assertEqual(gain_of(bolts(1), EMPTY, 0, stock, [SCREW, NAIL]), (GREAT + 1, [1, GREAT]))


class AgainstAllChoicesTest(unittest.TestCase):
    def test_against_all_choices(self):
        chance = random.Random(71)
        sizes = set()
        for _ in range(150):
            book, parts = some_book(chance, "abcd", 4), some_list(chance, "abcd", 2, 2)
            menu = some_menu(chance, book, "abcd", 6)
            if menu is None:
                continue
            date, counts = chance.randrange(4), some_counts(chance, "abcd", 3)
            choices = brute.all_sets(range(len(menu)))
            made = {choice: brute.most(parts, added(book, [menu[k] for k in choice]), date, counts)
                    for choice in choices}
            now, all_made = made[()], made[tuple(range(len(menu)))]
            alone = [made[(k,)] - now for k in range(len(menu))]
            self.assertEqual(gain_of(parts, book, date, Stock(counts), menu), (all_made - now, alone))
            for many in range(all_made + 2):
                enough = [choice for choice in choices if made[choice] >= many]
                least = [choice for choice in enough
                         if not any(set(other) < set(choice) for other in enough)]
                self.assertEqual(least_given(parts, book, date, Stock(counts), menu, many), least)
                sizes.update(len(choice) for choice in least)
                sizes.update([None] if not least else [])
        self.assertTrue({None, 0, 1, 2} <= sizes)

    def test_more_allowances_never_let_fewer_things_be_made(self):
        chance = random.Random(72)
        for _ in range(100):
            book, parts = some_book(chance, "abcdefgh", 6), some_list(chance, "abcdefgh", 5, 9)
            menu = some_menu(chance, book, "abcdefgh", 6)
            if menu is not None:
                gain, alone = gain_of(parts, book, 1, Stock(some_counts(chance, "abcdefgh", 99)), menu)
                self.assertTrue(all(0 <= one <= gain for one in alone))

    def test_calls_take_no_long_time(self):
        chance = random.Random(73)
        begin = time.process_time()
        rows = [("p" + letter, "a", 0, None) for letter in "ghi"] + [("a", letter, 0, None) for letter in "bcd"]
        parts = PartsList([(letter, letter, 9, 5) for letter in "abcd"])
        for _ in range(10):
            stock = Stock(some_counts(chance, ["a", "b", "c", "d", "pa", "pb", "pg"], 99))
            least_given(parts, wide_book(3), 0, stock, rows, chance.randrange(12))
            gain_of(parts, wide_book(3), 0, stock, rows)
        self.assertLess(time.process_time() - begin, 20)


if __name__ == "__main__":
    unittest.main()
