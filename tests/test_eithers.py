"""Either-ors: their lists, rows of numbers and papers of lack."""

import random
import time
import unittest
from math import comb

from standinparts.allowances import Allowances
from standinparts.eithers import Eithers, is_lack_paper, lack_paper, most_of, numbers_for
from standinparts.errors import BadChoice, BadEither, BadNumber, TooMany
from standinparts.lists import PartsList
from standinparts.making import most
from standinparts.stocks import Stock
from tests import brute
from tests.odd import Agreeing, Unwilling, all_odd_values, odd_values
from tests.samples import some_book, some_counts, some_eithers, wide_book

EMPTY = Allowances()
GREAT = 10 ** 30


def one(word, plain="bolt", number=1, share=None):
    """A list of one place."""
    return PartsList([(word, plain, number, share)])


def places(letters, plain=None):
    """A list with a place for each letter, of one unit of the part of this name or of another one."""
    return PartsList([(letter, plain or letter, 1, None) for letter in letters])


BASE = one("x")
NUTS = ("e", one("y", "nut", 2), one("y", "screw"))
NAILS = ("f", one("z", "nail"), PartsList([("z", "nut", 1, None), ("w", "nail", 1, None)]))
NONE, ONE, TWO = Eithers(BASE, []), Eithers(BASE, [NUTS]), Eithers(BASE, [NUTS, NAILS])


class MakingEithersTest(unittest.TestCase):
    def check(self, index, base, eithers):
        with self.assertRaises(BadEither) as caught:
            Eithers(base, eithers)
        self.assertIs(caught.exception.index, index)

    def test_no_base_or_no_list(self):
        for value in all_odd_values() + [BASE.places(), EMPTY, ONE]:
            self.check(None, value, [NUTS])
            self.check(None, value, [None])
            if not isinstance(value, (list, tuple)):
                self.check(None, BASE, value)
        self.check(None, BASE, {0: NUTS})
        self.check(None, BASE, iter([NUTS]))

    def test_at_most_two(self):
        third = ("g", one("v"), one("v"))
        self.assertEqual([len(NONE), len(ONE), len(TWO)], [0, 1, 2])
        self.check(None, BASE, [NUTS, NAILS, third])
        self.check(None, BASE, [None, None, None])

    def test_entries_that_are_none(self):
        wrong = [(), ("e",), ("e", one("y")), ("e", one("y"), one("z"), one("v")), list(NUTS), ("E", *NUTS[1:]),
                 (True, *NUTS[1:]), ("e", one("y").places(), one("z")), ("e", one("y"), None), ("e", [], one("z"))]
        for value in wrong + all_odd_values():
            self.check(0, BASE, [value])
            self.check(0, BASE, [value, NAILS])
            self.check(1, BASE, [NUTS, value])
            self.check(0, BASE, [value, None])
        for value in all_odd_values() + [Agreeing(), Unwilling()]:
            self.check(0, BASE, [(value, one("y"), one("y"))])
            self.check(0, BASE, [("e", value, one("y"))])
            self.check(0, BASE, [("e", one("y"), value)])

    def test_words_in_use(self):
        self.check(1, BASE, [NUTS, ("e", *NAILS[1:])])
        self.check(0, BASE, [("e", one("x"), one("y"))])
        self.check(0, BASE, [("e", one("y"), one("y") + one("x"))])
        self.check(1, BASE, [NUTS, ("f", one("y"), one("z"))])
        self.check(1, BASE, [("e", one("y"), one("v")), ("f", one("z"), one("u") + one("v"))])
        self.check(1, BASE, [NUTS, ("f", one("x"), one("z"))])

    def test_words_that_may_be_used(self):
        # Both options may have the same words, and either-ors have words of their own.
        entry = ("x", one("y"), one("y", "nut"))
        self.assertEqual(Eithers(BASE, [entry]).words(), ["x"])
        self.assertEqual(Eithers(BASE, [entry, ("y", one("z"), one("z"))]).words(), ["x", "y"])

    def test_as_tuples_and_by_name(self):
        self.assertEqual(Eithers(BASE, (NUTS, NAILS)), TWO)
        self.assertEqual(Eithers(eithers=[NUTS], base=BASE), ONE)
        self.assertEqual(ONE.list_of(choice=(0,)), BASE + NUTS[1])

    def test_nothing_is_kept(self):
        given = [NUTS]
        made = Eithers(BASE, given)
        given.append(NAILS)
        made.words().append("f")
        made.combinations().clear()
        self.assertEqual([len(made), made.words(), made.combinations()], [1, ["e"], [(0,), (1,)]])
        self.assertEqual(given, [NUTS, NAILS])

    def test_equal(self):
        self.assertIs(ONE == Eithers(one("x"), [("e", one("y", "nut", 2), one("y", "screw"))]), True)
        self.assertIs(TWO != Eithers(BASE, [NUTS, NAILS]), False)
        for other in [NONE, TWO, Eithers(one("v"), [NUTS]), Eithers(BASE, [("g", *NUTS[1:])]),
                      Eithers(BASE, [("e", NUTS[2], NUTS[1])]), Eithers(BASE, [NAILS])]:
            self.assertIs(ONE == other, False)
        self.assertIs(TWO == Eithers(BASE, [NAILS, NUTS]), False)
        for value in all_odd_values() + [BASE]:
            self.assertIs(NONE == value, False)


class ChoicesTest(unittest.TestCase):
    def test_combinations(self):
        self.assertEqual(NONE.combinations(), [()])
        self.assertEqual(ONE.combinations(), [(0,), (1,)])
        self.assertEqual(TWO.combinations(), [(0, 0), (0, 1), (1, 0), (1, 1)])

    def test_lists(self):
        self.assertEqual(NONE.list_of(()), BASE)
        self.assertEqual([ONE.list_of((0,)), ONE.list_of((1,))], [BASE + NUTS[1], BASE + NUTS[2]])
        self.assertEqual(TWO.list_of((1, 0)), BASE + NUTS[2] + NAILS[1])
        self.assertEqual(TWO.list_of((0, 1)).words(), ["x", "y", "z", "w"])

    def test_no_choices(self):
        wrong = [(), (2,), (-1,), (0, 0), [0], [], (True,), (False,), ("0",), (None,), 0, 1, "0", {0: 0}, (1.0,)]
        for value in wrong + all_odd_values():
            with self.assertRaises(BadChoice) as caught:
                ONE.list_of(value)
            self.assertIs(caught.exception.choice, value)
        for value in [(0,), (0, 1, 0), (0, 2), (0, False), [0, 1], (Unwilling(), 0), (0, Agreeing())]:
            with self.assertRaises(BadChoice):
                TWO.list_of(value)
        with self.assertRaises(BadChoice):
            NONE.list_of([])

    def test_twelve_places_and_thirteen(self):
        made = Eithers(places("abcdefghij"), [("e", places("kl"), places("klm"))])
        self.assertEqual(len(made.list_of((0,))), 12)
        with self.assertRaises(TooMany) as caught:
            made.list_of((1,))
        self.assertEqual(caught.exception.limit, 12)


class ErrorsTest(unittest.TestCase):
    def calls(self, many, value=None):
        """The calls that are given a number of things, with their last arguments."""
        return [(numbers_for, (many,)), (lack_paper, (many,)), (is_lack_paper, (many, value))]

    def test_bad_numbers_ahead_of_all(self):
        crowded = Eithers(places("abcdefghijkl"), [("e", one("m"), one("m"))])
        for value in odd_values() + [-1, 201, GREAT, "1", [], (), {}, [1]]:
            for call, more in self.calls(value):
                with self.assertRaises(BadNumber) as caught:
                    call(crowded, EMPTY, 0, Stock(), *more)
                self.assertIs(caught.exception.number, value)

    def check_too_many(self, limit, made, book, many, calls=None):
        for call, more in calls or self.calls(many):
            with self.assertRaises(TooMany) as caught:
                call(made, book, 0, Stock(), *more)
            self.assertEqual(caught.exception.limit, limit)

    def test_too_many_places_ahead_of_too_many_candidates(self):
        for entries in [[("e", one("n"), places("lmn"))], [("e", places("lm"), one("l")), ("f", one("n"), one("o"))]]:
            crowded = Eithers(places("abcdefghijk"), entries)
            self.check_too_many(12, crowded, EMPTY, 200)
            self.check_too_many(12, crowded, EMPTY, None, [(most_of, ())])

    def test_twelve_places(self):
        made = Eithers(places("abcdefghijk", "bolt"), [("e", one("l"), one("l", "nut"))])
        self.assertEqual(numbers_for(made, EMPTY, 0, Stock({"bolt": 35, "nut": 1}), 3), (2, 1))

    def test_ten_candidates_and_eleven_in_all(self):
        ten = Eithers(places("abcd"), [("e", places("ef"), places("gh")), ("f", one("m", "i"), one("n", "j"))])
        for call, more in self.calls(1) + [(most_of, ())]:
            call(ten, EMPTY, 0, Stock(), *more)
        eleven = Eithers(places("abcd"), [("e", places("ef"), places("ghk")), ("f", one("m", "i"), one("n", "j"))])
        self.check_too_many(10, eleven, EMPTY, 200)
        self.check_too_many(10, eleven, EMPTY, 0)
        self.check_too_many(10, eleven, EMPTY, None, [(most_of, ())])
        made = Eithers(one("x", "a"), [("e", one("y", "a"), one("y", "z"))])
        self.assertEqual(most_of(made, wide_book(8), 0, Stock()), 0)
        self.check_too_many(10, made, wide_book(9), 200)

    def test_five_thousand_rows(self):
        self.assertEqual([comb(32, 3), comb(33, 3)], [4960, 5456])
        self.assertEqual(len(lack_paper(TWO, EMPTY, 0, Stock(), 29)), 4960)
        for many in (30, 31, 200):
            self.check_too_many(5000, TWO, EMPTY, many)
            self.check_too_many(5000, TWO, EMPTY, many, self.calls(many, [((0, 0, 0, many), ("bolt",))]))
        for made, rows in [(NONE, 1), (ONE, 201)]:
            self.assertEqual(len(lack_paper(made, EMPTY, 0, Stock(), 200)), rows)

    def test_by_name(self):
        given = {"stock": Stock({"bolt": 2, "nut": 2, "screw": 1}), "date": 0, "allowances": EMPTY, "eithers": ONE}
        self.assertEqual(numbers_for(many=2, **given), (1, 1))
        self.assertEqual(most_of(**given), 2)
        paper = [((number, 3 - number), ("bolt",)) for number in range(4)]
        self.assertEqual(lack_paper(many=3, **given), [(row, ("bolt",)) for row, _ in paper])
        self.assertIs(is_lack_paper(value=paper, many=3, **given), True)

    def test_nothing_changes(self):
        stock = Stock({"bolt": 2, "nut": 2, "screw": 1})
        paper = lack_paper(ONE, EMPTY, 0, stock, 3)
        again = lack_paper(ONE, EMPTY, 0, stock, 3)
        paper.clear()
        self.assertEqual(len(again), 4)
        numbers_for(ONE, EMPTY, 0, stock, 2)
        most_of(ONE, EMPTY, 0, stock)
        kept = list(again)
        is_lack_paper(ONE, EMPTY, 0, stock, 3, again)
        self.assertEqual([stock, again], [Stock({"bolt": 2, "nut": 2, "screw": 1}), kept])


class NumbersTest(unittest.TestCase):
    def test_first_row(self):
        stock = Stock({"bolt": 9, "nut": 6, "screw": 2, "nail": 9})
        self.assertEqual([numbers_for(ONE, EMPTY, 0, stock, many) for many in (0, 2, 5, 6)],
                         [(0, 0), (0, 2), (3, 2), None])
        self.assertEqual(numbers_for(NONE, EMPTY, 0, stock, 9), (9,))
        self.assertEqual(numbers_for(TWO, EMPTY, 0, stock, 3), (0, 1, 0, 2))
        self.assertEqual(numbers_for(TWO, EMPTY, 0, Stock(), 0), (0, 0, 0, 0))

    def test_things_share_the_parts_of_all_choices(self):
        made = Eithers(BASE, [("e", one("y", "nut"), one("y", "screw"))])
        book = Allowances([("nail", "nut", 0, None), ("nail", "screw", 0, None)])
        stock = Stock({"bolt": 9, "nut": 1, "screw": 1, "nail": 2})
        self.assertEqual(most_of(made, book, 0, stock), 4)
        self.assertEqual(numbers_for(made, book, 0, stock, 4), (1, 3))
        self.assertEqual([row for row, _ in lack_paper(made, book, 0, stock, 5)],
                         [(0, 5), (1, 4), (2, 3), (3, 2), (4, 1), (5, 0)])

    def test_dates(self):
        book = Allowances([("nail", "nut", 3, 5)])
        stock = Stock({"bolt": 2, "nail": 4})
        self.assertEqual([most_of(ONE, book, date, stock) for date in (2, 3, 5, 6)], [0, 2, 2, 0])

    def test_two_hundred_for_more(self):
        for many, told in [(199, 199), (200, 200), (201, 200), (GREAT, 200)]:
            stock = Stock({"bolt": many, "screw": many})
            self.assertEqual([most_of(NONE, EMPTY, 0, stock), most_of(ONE, EMPTY, 0, stock)], [told, told])
        self.assertEqual(numbers_for(ONE, EMPTY, 0, Stock({"bolt": 200, "screw": 120, "nut": 160}), 200), (80, 120))
        self.assertIsNone(numbers_for(ONE, EMPTY, 0, Stock({"bolt": 200, "screw": 119, "nut": 160}), 200))

    def test_twenty_eight_and_twenty_nine(self):
        for many in (0, 1, 27, 28):
            stock = Stock({"bolt": many, "nut": GREAT, "nail": GREAT})
            self.assertEqual(most_of(TWO, EMPTY, 0, stock), many)
        for many in (29, 30, GREAT):
            with self.assertRaises(TooMany) as caught:
                most_of(TWO, EMPTY, 0, Stock({"bolt": many, "nut": GREAT, "nail": GREAT}))
            self.assertEqual(caught.exception.limit, 5000)
        self.assertIsNotNone(numbers_for(TWO, EMPTY, 0, Stock({"bolt": 29, "nut": GREAT, "nail": GREAT}), 29))

    def test_without_either_ors_as_lists(self):
        chance = random.Random(41)
        for _ in range(100):
            made = some_eithers(chance, "abcd", 0, 3)
            book, stock = some_book(chance, "abcd", 5), Stock(some_counts(chance, "abcd", 9))
            self.assertEqual(most_of(made, book, 1, stock), most(made.list_of(()), book, 1, stock))

    def test_against_all_ways(self):
        chance = random.Random(42)
        told = []
        for _ in range(250):
            made, book = some_eithers(chance, "abcd", 2, 2), some_book(chance, "abcd", 5)
            date, counts = chance.randrange(4), some_counts(chance, "abcd", 3)
            stock, many = Stock(counts), 0
            while True:
                row = brute.numbers_for(made, book, date, counts, many)
                self.assertEqual(numbers_for(made, book, date, stock, many), row)
                told.append(row)
                if row is None:
                    break
                self.assertIsNone(lack_paper(made, book, date, stock, many))
                self.assertIs(is_lack_paper(made, book, date, stock, many, []), False)
                many += 1
            self.assertEqual(most_of(made, book, date, stock), many - 1)
            paper = [(row, brute.lack_of_row(made, book, date, counts, row))
                     for row in brute.rows_of(many, 2 ** len(made))]
            self.assertEqual(lack_paper(made, book, date, stock, many), paper)
            self.assertIs(is_lack_paper(made, book, date, stock, many, paper), True)
        self.assertTrue({(0, 0, 0, 1), (0, 0, 1, 0), (0, 1, 0, 0), (1, 0, 0, 0), (1, 0), (0, 1), (1,)} <= set(told))

    def test_calls_take_no_long_time(self):
        # A part that may stand for all others makes each set of parts one that may lack.
        letters = "abcdefghi"
        made = Eithers(PartsList([("p" + letter, letter, 1, None) for letter in letters]),
                       [("e", one("q", "z", 2), one("q", "z")), ("f", one("r", "z", 3), one("r", "a", 2))])
        book = Allowances([("z", letter, 0, None) for letter in letters])
        begin = time.process_time()
        for units in (10, 60, 110, 150):
            stock = Stock({**{letter: 20 for letter in letters}, "z": units})
            self.assertLess(most_of(made, book, 0, stock), 29)
            paper = lack_paper(made, book, 0, stock, 29)
            self.assertIs(is_lack_paper(made, book, 0, stock, 29, paper), True)
        for units in range(100):
            stock = Stock({"bolt": units, "nut": 2 * units, "screw": units, "nail": units})
            most_of(ONE, EMPTY, 0, stock)
            numbers_for(TWO, EMPTY, 0, stock, 5)
        self.assertLess(time.process_time() - begin, 20)


class MostOfTest(unittest.TestCase):
    """How many can be made at the most, told without looking at each row of numbers by itself."""

    def twice(self, units):
        """The input that took longest: two either-ors the options of which are one list."""
        made = Eithers(one("x", "a"), [("e", one("y", "a"), one("y", "a")), ("f", one("z", "a"), one("z", "a"))])
        return lambda: most_of(made, EMPTY, 0, Stock({"a": units}))

    def check_too_many(self, call):
        with self.assertRaises(TooMany) as caught:
            call()
        self.assertEqual(caught.exception.limit, 5000)

    def by_rows(self, made, book, date, stock):
        """The same, counted up from 1, with each row of numbers looked at; TooMany's limit if it is raised."""
        try:
            for many in range(1, 201):
                if numbers_for(made, book, date, stock, many) is None:
                    return many - 1
        except TooMany as error:
            return -error.limit
        return 200

    def told(self, made, book, date, stock):
        """What most_of tells; TooMany's limit if it is raised."""
        try:
            return most_of(made, book, date, stock)
        except TooMany as error:
            return -error.limit

    def test_options_that_are_one_list(self):
        for units, told in [(0, 0), (2, 0), (3, 1), (83, 27), (84, 28), (86, 28)]:
            self.assertEqual(self.twice(units)(), told)
        for units in (87, 88, 90, 1000, GREAT):
            self.check_too_many(self.twice(units))
        single = Eithers(one("x", "a"), [("e", one("y", "a"), one("y", "a"))])
        for units, told in [(1, 0), (57, 28), (58, 29), (60, 30), (399, 199), (400, 200), (1000, 200), (GREAT, 200)]:
            self.assertEqual(most_of(single, EMPTY, 0, Stock({"a": units})), told)

    def test_a_hundred_of_each_within_a_second(self):
        begin = time.process_time()
        for _ in range(100):
            self.assertEqual(self.twice(86)(), 28)
            self.check_too_many(self.twice(87))
        self.assertLess(time.process_time() - begin, 1)

    def test_unlike_options_within_a_second(self):
        book = Allowances([("d", "b", 0, None), ("d", "c", 0, None), ("a", "c", 0, None)])
        made = Eithers(one("x", "a"), [("e", one("y", "b", 2), one("y", "c", 1, 1)),
                                       ("f", one("z"), one("z", "c", 3, 1))])
        stocks = [Stock({"a": 28, "b": 30, "c": 30, "d": 5, "bolt": units}) for units in range(29)]
        counted = [self.by_rows(made, book, 0, stock) for stock in stocks]
        self.assertGreater(len(set(counted)), 5)
        begin = time.process_time()
        for _ in range(4):
            self.assertEqual([most_of(made, book, 0, stock) for stock in stocks], counted)
        self.assertLess(time.process_time() - begin, 1)

    def test_ten_candidates_within_a_second(self):
        letters = "abcdefghi"
        base = PartsList([("p" + letter, letter, 1, None) for letter in letters])
        made = Eithers(base, [("e", one("q", "z", 2), one("q", "z")), ("f", one("r", "z", 3), one("r", "a", 2))])
        book = Allowances([("z", letter, 0, None) for letter in letters])
        begin = time.process_time()
        for units in list(range(0, 160, 8)) * 10:
            most_of(made, book, 0, Stock({**{letter: 20 for letter in letters}, "z": units}))
        self.assertLess(time.process_time() - begin, 2)

    def test_only_second_options_can_be_had(self):
        made = Eithers(one("x", "a"), [("e", one("y", "b"), one("y", "c")), ("f", one("z", "d"), one("z", "e", 2))])
        for units, told in [({"b": 9, "e": 40}, 9), ({"c": 9, "d": 40}, 9), ({"c": 9, "e": 17}, 8), ({"b": 9}, 0),
                            ({"b": 5, "c": 5, "d": 5, "e": 11}, 10), ({"b": 5, "c": 5, "d": 5, "e": 7}, 8)]:
            self.assertEqual(most_of(made, EMPTY, 0, Stock({"a": 28, **units})), told)

    def test_against_all_rows(self):
        chance = random.Random(44)
        found = []
        for k in range(400):
            made, book = some_eithers(chance, "abcd", 2, 3), some_book(chance, "abcd", 5)
            if k % 4 == 0:
                made = Eithers(one("x", "a"), [("e", one("y", "b", 2), one("y", "c", 1, 1)),
                                               ("f", one("z", chance.choice("abcd"), 2), one("z", "d", 1, 0))])
            date = chance.randrange(4)
            stock = Stock(some_counts(chance, "abcd", chance.choice([12, 40, 60, 150, 900])))
            told = self.told(made, book, date, stock)
            self.assertEqual(told, self.by_rows(made, book, date, stock))
            found.append((len(made), told))
        self.assertTrue({(0, 200), (1, 200), (2, -5000), (2, 0), (1, 0)} <= set(found))
        self.assertGreater(len({told for length, told in found if length == 2}), 20)

    def test_against_all_rows_and_sets(self):
        chance = random.Random(45)
        for _ in range(60):
            made, book = some_eithers(chance, "abc", 2, 2), some_book(chance, "abc", 4)
            counts, many = some_counts(chance, "abc", 14), 0
            while many < 9 and any(brute.lack_of_row(made, book, 1, counts, row) is None
                                   for row in brute.rows_of(many + 1, 2 ** len(made))):
                many += 1
            told = self.told(made, book, 1, Stock(counts))
            self.assertTrue(told == many or many == 9 and (told > 9 or told == -5000))


class IsLackPaperTest(unittest.TestCase):
    def setUp(self):
        self.book = Allowances([("screw", "nut", 0, None)])
        self.made = Eithers(BASE, [("e", one("y", "nut", 2, 1), one("y", "screw"))])
        self.stock = Stock({"bolt": 5, "nut": 1, "screw": 1})
        self.paper = [((0, 2), ("screw",)), ((1, 1), ("nut", "screw")), ((2, 0), ("nut",))]

    def check(self, value, many=2):
        return is_lack_paper(self.made, self.book, 0, self.stock, many, value)

    def test_papers(self):
        self.assertEqual(lack_paper(self.made, self.book, 0, self.stock, 2), self.paper)
        self.assertIs(self.check(self.paper), True)
        both = ("nut", "screw")
        self.assertIs(self.check([((0, 2), ("screw",)), ((1, 1), both), ((2, 0), both)]), True)

    def test_rows_left_out_doubled_or_out_of_order(self):
        first, second, third = self.paper
        for value in [[], [first, second], [first, third], [second, third], self.paper + [third],
                      [first, first, second, third], [first, second, second], [first, third, second],
                      [third, second, first], [second, first, third], [first, second, third, ((3, 0), ("nut",))]]:
            self.assertIs(self.check(value), False)

    def test_other_sets_and_numbers(self):
        for at, sets in enumerate([[(), ("nut",), ("bolt",), ("nut", "screw"), ("bolt", "screw"), ("screw", "zz")],
                                   [(), ("nut",), ("screw",), ("screw", "nut"), ("bolt", "nut", "screw")],
                                   [(), ("screw",), ("nut", "nut"), ("bolt",), ("nut", "zz"), ("aa", "nut"), ("x",)]]):
            for parts in sets:
                value = list(self.paper)
                value[at] = (value[at][0], parts)
                self.assertIs(self.check(value), False)
        for many in (0, 1, 3, 200):
            self.assertIs(self.check(self.paper, many), False)
        for at in range(3):
            for row in [(0, 0), (0, 3), (2,), (0, 2, 0), (-1, 3), (3, -1), (), (1, 2)]:
                value = list(self.paper)
                value[at] = (row, value[at][1])
                self.assertIs(self.check(value), False)

    def test_lists_are_no_tuples(self):
        self.assertIs(self.check(tuple(self.paper)), False)
        for at, (row, parts) in enumerate(self.paper):
            for entry in [[row, parts], (list(row), parts), (row, list(parts)), (row, parts, parts), (row,), row,
                          {row: parts}, (parts, row)]:
                value = list(self.paper)
                value[at] = entry
                self.assertIs(self.check(value), False)

    def test_true_is_not_one(self):
        for row in [(True, 1), (1, True), (True, True), (1.0, 1), (1, 1.0), ("1", "1")]:
            value = list(self.paper)
            value[1] = (row, value[1][1])
            self.assertIs(self.check(value), False)

    def test_values_of_other_kinds(self):
        for odd in all_odd_values() + [Agreeing(), Unwilling(), self.made, self.stock]:
            self.assertIs(self.check(odd), False)
            for at, (row, parts) in enumerate(self.paper):
                for entry in [odd, (odd, parts), (row, odd), ((odd, row[1]), parts), (row, (odd,)),
                              (row, ("bolt", odd)), (row, (odd, "screw"))]:
                    value = list(self.paper)
                    value[at] = entry
                    self.assertIs(self.check(value), False)

    def test_what_is_accepted_is_right(self):
        chance = random.Random(43)
        truths = []
        for _ in range(400):
            made, book = some_eithers(chance, "abc", 1, 2), some_book(chance, "abc", 4)
            counts, many = some_counts(chance, "abc", 3), chance.randrange(4)
            lists = [made.list_of(choice) for choice in made.combinations()]
            parts = sorted(set().union(*[brute.fitting(row, book, 0) for row in lists]))
            value, right = [], True
            for row in brute.rows_of(many, len(lists)):
                short = [few for few in brute.all_sets(parts) if sum(counts[part] for part in few) < sum(
                    number * brute.demand(asked, book, 0, few) for number, asked in zip(row, lists))]
                few = chance.choice(short if short and chance.random() < 0.9 else brute.all_sets("abc"))
                right = right and few in short
                value.append((row, few))
            self.assertIs(is_lack_paper(made, book, 0, Stock(counts), many, value), right)
            if right:
                self.assertIsNone(brute.numbers_for(made, book, 0, counts, many))
            truths.append(right)
        self.assertGreater(min(truths.count(True), truths.count(False)), 30)


if __name__ == "__main__":
    unittest.main()
