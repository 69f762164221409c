"""Allowances, and books of them."""

import random
import unittest

from standinparts.allowances import Allowances, is_allowance
from standinparts.errors import BadAllowance, BadAllowances, BadDate, TooMany
from standinparts.lists import PartsList
from tests import brute
from tests.odd import Agreeing, Unwilling, all_odd_values, odd_values
from tests.samples import some_book

LETTERS = "abcdefghijklmnopqrstuvwxyz"


def twelve():
    """Twelve different allowances, in the order in which a book tells them."""
    return [(letter, "z", 0, None) for letter in LETTERS[:12]]


class IsAllowanceTest(unittest.TestCase):
    def test_allowances(self):
        for value in [("a", "b", 0, None), ("a", "b", 0, 0), ("a", "b", 9999, 9999), ("a", "b", 0, 9999),
                      ("abcdefgh", "bcdefghi", 3, 4), ("b", "a", 9999, None)]:
            self.assertIs(is_allowance(value), True)

    def test_no_allowances(self):
        good = ("a", "b", 3, 5)
        wrong = [("a", "b", 3), ("a", "b", 3, 5, 5), ["a", "b", 3, 5], ("a", "a", 3, 5), ("a", "b", 5, 3),
                 ("a", "b", None, 5), ("a", "b", 3, 10000), ("a", "b", -1, 5), ("a", "b", 10000, None), "abcd"]
        for at in range(4):
            for value in odd_values() + [[], (), {}, ("a",), ["a"], 10 ** 9, -1]:
                if at != 3 or value is not None:
                    wrong.append((*good[:at], value, *good[at + 1:]))
        for value in wrong + all_odd_values():
            self.assertIs(is_allowance(value), False)

    def test_truths_are_no_integers(self):
        self.assertIs(is_allowance(("a", "b", False, None)), False)
        self.assertIs(is_allowance(("a", "b", 0, True)), False)

    def test_by_name(self):
        self.assertIs(is_allowance(value=("a", "b", 0, None)), True)


class MakingBooksTest(unittest.TestCase):
    def test_rows_are_ordered(self):
        rows = [("b", "a", 0, None), ("a", "c", 0, 1), ("a", "b", 7, None), ("a", "b", 7, 9999), ("a", "b", 0, None),
                ("a", "b", 7, 8)]
        ordered = [("a", "b", 0, None), ("a", "b", 7, 8), ("a", "b", 7, 9999), ("a", "b", 7, None), ("a", "c", 0, 1),
                   ("b", "a", 0, None)]
        self.assertEqual(Allowances(rows).rows(), ordered)
        self.assertEqual(Allowances(tuple(reversed(rows))).rows(), ordered)

    def test_empty_and_through(self):
        self.assertEqual(Allowances().rows(), [])
        self.assertIs(Allowances().through, False)
        self.assertIs(Allowances([], through=False).through, False)
        self.assertIs(Allowances((), through=True).through, True)
        self.assertIs(Allowances(through=True, rows=[("a", "b", 0, None)]).through, True)

    def test_through_by_name_alone(self):
        with self.assertRaises(TypeError):
            Allowances([], True)

    def test_no_list(self):
        for value in odd_values() + [{}, {("a", "b", 0, None): 1}, "", "ab", 5, iter([]), Allowances()]:
            with self.assertRaises(BadAllowance) as caught:
                Allowances(value)
            self.assertIsNone(caught.exception.index)

    def test_index_of_the_first_bad_one(self):
        for at in (0, 1, 5, 11):
            for value in all_odd_values():
                rows = twelve()
                rows[at] = value
                with self.assertRaises(BadAllowance) as caught:
                    Allowances(rows + [None])
                self.assertEqual(caught.exception.index, at)

    def test_index_of_the_first_double_one(self):
        rows = twelve()
        with self.assertRaises(BadAllowance) as caught:
            Allowances([rows[0], rows[1], rows[2], rows[1], rows[0]])
        self.assertEqual(caught.exception.index, 3)
        with self.assertRaises(BadAllowance) as caught:
            Allowances([rows[0], rows[0], None])
        self.assertEqual(caught.exception.index, 1)
        with self.assertRaises(BadAllowance) as caught:
            Allowances([rows[0], None, rows[0]])
        self.assertEqual(caught.exception.index, 1)
        # Only allowances that are alike in all four are the same.
        rows = [("a", "b", 0, None), ("a", "b", 0, 5), ("a", "b", 1, None), ("b", "a", 0, None), ("a", "c", 0, None)]
        self.assertEqual(len(Allowances(rows)), 5)

    def test_twelve_and_thirteen(self):
        self.assertEqual(Allowances(twelve()).rows(), twelve())
        for more in (1, 2, 10):
            with self.assertRaises(TooMany) as caught:
                Allowances(twelve() + [(letter, "y", 0, None) for letter in LETTERS[:more]])
            self.assertEqual(caught.exception.limit, 12)

    def test_a_bad_one_goes_ahead_of_too_many(self):
        for value in (twelve()[4], None, ["a", "b", 0, None]):
            with self.assertRaises(BadAllowance) as caught:
                Allowances(twelve() + [value])
            self.assertEqual(caught.exception.index, 12)

    def test_nothing_is_kept_or_changed(self):
        rows = [("b", "a", 0, None), ("a", "b", 0, None)]
        book = Allowances(rows)
        self.assertEqual(rows, [("b", "a", 0, None), ("a", "b", 0, None)])
        rows.append(("c", "b", 0, None))
        rows[0] = ("c", "a", 0, None)
        told = book.rows()
        told.clear()
        dates = book.dates()
        dates.append(5)
        self.assertEqual(book.rows(), [("a", "b", 0, None), ("b", "a", 0, None)])
        self.assertEqual(book.dates(), [0])
        self.assertIsNot(book.rows(), book.rows())

    def test_through_is_only_read(self):
        book = Allowances()
        with self.assertRaises(AttributeError):
            book.through = True
        self.assertIs(book.through, False)


class CandidatesTest(unittest.TestCase):
    def test_example(self):
        book = Allowances([('screw', 'bolt', 5, None), ('nail', 'screw', 0, 7)], through=True)
        told = [book('bolt', 4), book('bolt', 6), book('bolt', 8), book.dates()]
        self.assertEqual(told, [('bolt',), ('bolt', 'nail', 'screw'), ('bolt', 'screw'), [0, 5, 8]])

    def test_since_and_till_with_both_dates(self):
        book = Allowances([("a", "b", 3, 5), ("c", "b", 4, 4), ("d", "b", 9999, None)])
        told = {date: book("b", date) for date in (0, 2, 3, 4, 5, 6, 9998, 9999)}
        self.assertEqual(told, {0: ("b",), 2: ("b",), 3: ("b", "a"), 4: ("b", "a", "c"), 5: ("b", "a"), 6: ("b",),
                                9998: ("b",), 9999: ("b", "d")})

    def test_for_ever(self):
        book = Allowances([("a", "b", 0, None), ("c", "b", 0, 9999)])
        self.assertEqual([book("b", 0), book("b", 9999)], [("b", "a", "c"), ("b", "a", "c")])

    def test_plain_first_then_ascending(self):
        book = Allowances([("z", "m", 0, None), ("a", "m", 0, None), ("n", "m", 0, None), ("aa", "m", 0, None)])
        self.assertEqual(book("m", 0), ("m", "a", "aa", "n", "z"))

    def test_a_part_is_told_once(self):
        book = Allowances([("a", "b", 0, None), ("a", "b", 0, 5), ("a", "b", 2, 7)])
        self.assertEqual(book("b", 3), ("b", "a"))

    def test_only_one_step_without_through(self):
        rows = [("b", "a", 0, None), ("c", "b", 0, None), ("d", "c", 2, None)]
        self.assertEqual(Allowances(rows)("a", 5), ("a", "b"))
        self.assertEqual(Allowances(rows, through=True)("a", 1), ("a", "b", "c"))
        self.assertEqual(Allowances(rows, through=True)("a", 5), ("a", "b", "c", "d"))

    def test_rings(self):
        rows = [("a", "b", 0, None), ("b", "c", 0, None), ("c", "a", 0, None)]
        book = Allowances(rows, through=True)
        told = [book("a", 0), book("b", 0), book("c", 0)]
        self.assertEqual(told, [("a", "b", "c"), ("b", "a", "c"), ("c", "a", "b")])
        self.assertEqual(Allowances(rows)("a", 0), ("a", "c"))

    def test_all_steps_at_the_same_date(self):
        book = Allowances([("b", "a", 0, 3), ("c", "b", 4, None)], through=True)
        self.assertEqual([book("a", 3), book("a", 4)], [("a", "b"), ("a",)])

    def test_parts_that_are_nowhere(self):
        self.assertEqual(Allowances()("bolt", 0), ("bolt",))
        self.assertEqual(Allowances([("a", "b", 0, None)])("a", 0), ("a",))

    def test_twelve_in_a_row(self):
        rows = [(LETTERS[k + 1], LETTERS[k], 0, None) for k in range(12)]
        self.assertEqual(Allowances(rows, through=True)("a", 9999), tuple(LETTERS[:13]))
        self.assertEqual(Allowances(rows[::-1], through=True)("f", 0), tuple(LETTERS[5:13]))

    def test_against_the_definition(self):
        chance = random.Random(4)
        for _ in range(300):
            book = some_book(chance, "abcde", 10)
            for plain in "abcdef":
                for date in range(9):
                    told = book(plain, date)
                    self.assertEqual(told[0], plain)
                    self.assertEqual(list(told[1:]), sorted(brute.candidates(book, plain, date) - {plain}))

    def test_dates_of_another_kind(self):
        book = Allowances([("a", "b", 0, None)])
        for value in all_odd_values() + ["0", (0,)]:
            with self.assertRaises(BadDate) as caught:
                book("b", value)
            self.assertIs(caught.exception.date, value)

    def test_by_name(self):
        book = Allowances([("a", "b", 3, None)])
        self.assertEqual(book(date=3, plain="b"), ("b", "a"))


class DatesTest(unittest.TestCase):
    def test_without_allowances(self):
        self.assertEqual(Allowances().dates(), [0])
        self.assertEqual(Allowances([("a", "b", 0, None)]).dates(), [0])

    def test_begins_and_the_dates_behind(self):
        book = Allowances([("a", "b", 7, 9), ("c", "b", 3, 6), ("d", "b", 7, None), ("e", "b", 0, 0)])
        self.assertEqual(book.dates(), [0, 1, 3, 7, 10])

    def test_none_behind_the_last_date(self):
        self.assertEqual(Allowances([("a", "b", 9999, 9999)]).dates(), [0, 9999])
        self.assertEqual(Allowances([("a", "b", 0, 9998), ("c", "b", 2, 9999)]).dates(), [0, 2, 9999])
        self.assertEqual(Allowances([("a", "b", 0, 9999)]).dates(), [0])

    def test_candidates_change_at_no_other_date(self):
        chance = random.Random(6)
        for _ in range(100):
            book = some_book(chance, "abcd", 6)
            for date in range(1, 12):
                if date not in book.dates():
                    for plain in "abcd":
                        self.assertEqual(book(plain, date), book(plain, date - 1))


class OperatorsTest(unittest.TestCase):
    def test_len_and_in(self):
        book = Allowances([("a", "b", 1, None), ("a", "b", 0, 1)])
        self.assertEqual([len(Allowances()), len(book), len(Allowances(twelve()))], [0, 2, 12])
        self.assertIs(("a", "b", 1, None) in book, True)
        self.assertIs(("a", "b", 0, 1) in book, True)
        for value in [("a", "b", 0, None), ("b", "a", 1, None), ["a", "b", 1, None], ("a", "b", True, None),
                      ("a", "b", False, True), ("a", "b", 0, True), ("a", "b", 1.0, None), "a"]:
            self.assertIs(value in book, False)
        for value in all_odd_values() + [("a", "b", Unwilling(), None), (Agreeing(),) * 4]:
            self.assertIs(value in book, False)

    def test_one_more(self):
        for through in (False, True):
            book = Allowances([("c", "b", 0, None)], through=through)
            more = book + ("a", "b", 0, None)
            self.assertEqual(more.rows(), [("a", "b", 0, None), ("c", "b", 0, None)])
            self.assertIs(more.through, through)
            self.assertEqual(book.rows(), [("c", "b", 0, None)])
            self.assertIsInstance(more, Allowances)

    def test_one_more_that_is_none(self):
        for many in (0, 1, 3, 12):
            book = Allowances(twelve()[:many])
            values = all_odd_values() + [["a", "y", 0, None], Allowances(), Allowances([("a", "y", 0, None)])]
            for value in values + twelve()[:many]:
                with self.assertRaises(BadAllowance) as caught:
                    book + value
                self.assertEqual(caught.exception.index, many)
            self.assertEqual(book.rows(), twelve()[:many])

    def test_one_more_than_twelve(self):
        self.assertEqual(Allowances(twelve()[:11]) + twelve()[11], Allowances(twelve()))
        with self.assertRaises(TooMany) as caught:
            Allowances(twelve()) + ("a", "y", 0, None)
        self.assertEqual(caught.exception.limit, 12)

    def test_both(self):
        one = Allowances([("a", "b", 0, None), ("b", "c", 0, None)])
        other = Allowances([("b", "c", 0, None), ("a", "c", 0, None)])
        rows = [("a", "b", 0, None), ("a", "c", 0, None), ("b", "c", 0, None)]
        self.assertEqual((one | other).rows(), rows)
        self.assertEqual((other | one).rows(), rows)
        self.assertEqual([len(one), len(other)], [2, 2])
        self.assertEqual((one | one), one)
        self.assertEqual((one | Allowances()), one)

    def test_both_through_if_one_is(self):
        for one in (False, True):
            for other in (False, True):
                told = (Allowances(through=one) | Allowances([("a", "b", 0, None)], through=other)).through
                self.assertIs(told, one or other)

    def test_both_with_something_else(self):
        for value in all_odd_values() + [("a", "b", 0, None), [("a", "b", 0, None)]]:
            with self.assertRaises(BadAllowances) as caught:
                Allowances() | value
            self.assertIs(caught.exception.value, value)

    def test_both_of_more_than_twelve(self):
        one = Allowances(twelve()[:8])
        self.assertEqual(one | Allowances(twelve()[4:]), Allowances(twelve()))
        with self.assertRaises(TooMany) as caught:
            Allowances(twelve()) | Allowances([("a", "y", 0, None)])
        self.assertEqual(caught.exception.limit, 12)

    def test_equal(self):
        rows = [("a", "b", 0, None), ("a", "b", 0, 5)]
        self.assertIs(Allowances(rows) == Allowances(tuple(rows[::-1])), True)
        self.assertIs(Allowances(rows) != Allowances(rows), False)
        self.assertIs(Allowances(rows) == Allowances(rows, through=True), False)
        self.assertIs(Allowances(rows) == Allowances(rows[:1]), False)
        self.assertIs(Allowances() == Allowances(through=False), True)
        # The book lets the same parts stand for others, but its rows are other ones.
        self.assertIs(Allowances([("a", "b", 0, 3), ("a", "b", 4, None)]) == Allowances([("a", "b", 0, None)]), False)

    def test_not_equal_to_another_class(self):
        for value in all_odd_values() + [PartsList([("a", "b", 1, None)])]:
            self.assertIs(Allowances() == value, False)
            self.assertIs(Allowances() != value, True)

    def test_no_iteration(self):
        for book in (Allowances(), Allowances(twelve())):
            for deed in (iter, list, tuple, sorted, enumerate):
                with self.assertRaises(TypeError):
                    deed(book)
            with self.assertRaises(TypeError):
                for _ in book:
                    pass


if __name__ == "__main__":
    unittest.main()
