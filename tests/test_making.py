"""How many things can be made, dealings, and what lacks."""

import random
import unittest
from itertools import permutations

from standinparts.allowances import Allowances
from standinparts.demand import Demand
from standinparts.errors import BadAllowances, BadDate, BadList, BadMany, BadStock, TooMany
from standinparts.lists import PartsList
from standinparts.making import dealing, is_dealing, is_lack, is_thing, lack, most
from standinparts.stocks import Stock
from tests import brute
from tests.odd import Agreeing, Unwilling, all_odd_values, odd_values
from tests.samples import some_book, some_counts, some_list, wide_book

EMPTY = Allowances()
SCREWS = Allowances([("screw", "bolt", 0, None)])
GREAT = 10 ** 30


def bolts(number, share=None, plain="bolt"):
    """A list of one place."""
    return PartsList([("x", plain, number, share)])


class ErrorsTest(unittest.TestCase):
    def calls(self, many=1, value=None):
        """The calls with their last arguments, with a number of things where one is given."""
        return [(most, ()), (lack, (many,)), (dealing, (many,)), (is_dealing, (many, value)), (is_lack, (many, value))]

    def test_bad_lists_allowances_and_dates(self):
        for call, more in self.calls(many=-1):
            for value in all_odd_values() + [bolts(1).places(), Stock()]:
                with self.assertRaises(BadList) as caught:
                    call(value, None, None, None, *more)
                self.assertIs(caught.exception.value, value)
                with self.assertRaises(BadAllowances) as caught:
                    call(bolts(1), value, None, None, *more)
                self.assertIs(caught.exception.value, value)
                with self.assertRaises(BadDate) as caught:
                    call(bolts(1, None, "a"), wide_book(10), value, None, *more)
                self.assertIs(caught.exception.date, value)

    def test_too_many_parts(self):
        for call, more in self.calls(many=-1):
            with self.assertRaises(TooMany) as caught:
                call(bolts(1, None, "a"), wide_book(10), 0, None, *more)
            self.assertEqual(caught.exception.limit, 10)
        for call, more in self.calls():
            call(bolts(1, None, "a"), wide_book(9), 0, Stock({"a": 1}), *more)

    def test_bad_stocks(self):
        for call, more in self.calls(many=-1):
            for value in all_odd_values() + [{"bolt": 1}, bolts(1)]:
                with self.assertRaises(BadStock) as caught:
                    call(bolts(1), EMPTY, 0, value, *more)
                self.assertIs(caught.exception.value, value)

    def test_bad_many(self):
        for value in odd_values() + [-1, GREAT + 1, "1", [], (), {}, [1]]:
            for call, more in self.calls(many=value)[1:]:
                with self.assertRaises(BadMany) as caught:
                    call(bolts(1), EMPTY, 0, Stock(), *more)
                self.assertIs(caught.exception.many, value)

    def test_many_at_its_limits(self):
        for call, more in self.calls(many=0)[1:] + self.calls(many=GREAT)[1:]:
            call(bolts(1), EMPTY, 0, Stock(), *more)

    def test_by_name(self):
        given = {"stock": Stock({"bolt": 3, "screw": 1}), "date": 0, "allowances": SCREWS, "parts_list": bolts(2, 1)}
        self.assertEqual(most(**given), 2)
        self.assertEqual(lack(many=3, **given), ("bolt", "screw"))
        self.assertEqual(len(dealing(many=2, **given)), 2)
        thing = (("x", ("bolt", "screw")),)
        self.assertIs(is_dealing(value=[thing], many=1, **given), True)
        self.assertIs(is_lack(value=("bolt", "screw"), many=3, **given), True)
        self.assertIs(is_thing(value=thing, date=0, allowances=SCREWS, parts_list=bolts(2, 1)), True)

    def test_nothing_changes(self):
        stock = Stock({"bolt": 3, "screw": 1})
        parts = bolts(2, 1)
        made = dealing(parts, SCREWS, 0, stock, 2)
        most(parts, SCREWS, 0, stock)
        lack(parts, SCREWS, 0, stock, 3)
        is_dealing(parts, SCREWS, 0, stock, 2, made)
        self.assertEqual(stock, Stock({"bolt": 3, "screw": 1}))
        again = dealing(parts, SCREWS, 0, stock, 2)
        self.assertEqual(again, made)
        made.clear()
        self.assertEqual(len(again), 2)


class MostAndLackTest(unittest.TestCase):
    def test_example(self):
        parts, book = PartsList([('x', 'bolt', 2, 1)]), Allowances([('screw', 'bolt', 0, None)])
        told = [Demand(parts, book, 0).table(), most(parts, book, 0, Stock({'bolt': 3, 'screw': 1}))]
        self.assertEqual(told, [{('bolt',): 1, ('bolt', 'screw'): 2}, 2])
        self.assertEqual(lack(parts, book, 0, Stock({'bolt': 3, 'screw': 1}), 3), ('bolt', 'screw'))

    def test_dates(self):
        book = Allowances([("screw", "bolt", 3, 5)])
        stock = Stock({"screw": 4})
        self.assertEqual([most(bolts(2), book, date, stock) for date in (2, 3, 5, 6)], [0, 2, 2, 0])
        self.assertEqual([lack(bolts(2), book, date, stock, 1) for date in (2, 3)], [("bolt",), None])

    def test_through(self):
        rows = [("b", "a", 0, None), ("c", "b", 0, None)]
        stock = Stock({"c": 3, "b": 1})
        self.assertEqual(most(bolts(1, None, "a"), Allowances(rows), 0, stock), 1)
        self.assertEqual(most(bolts(1, None, "a"), Allowances(rows, through=True), 0, stock), 4)

    def test_nothing_asked(self):
        self.assertIsNone(lack(bolts(1), EMPTY, 0, Stock(), 0))
        self.assertEqual(most(bolts(1), EMPTY, 0, Stock()), 0)
        self.assertEqual(lack(bolts(1), EMPTY, 0, Stock(), 1), ("bolt",))

    def test_fewer_parts_first_then_ascending(self):
        parts = PartsList([("x", "d", 1, None), ("y", "c", 1, None), ("z", "b", 2, 1)])
        book = Allowances([("a", "b", 0, None), ("a", "c", 0, None)])
        self.assertEqual(lack(parts, book, 0, Stock(), 1), ("b",))
        self.assertEqual(lack(parts, book, 0, Stock({"b": 1}), 1), ("d",))
        self.assertEqual(lack(parts, book, 0, Stock({"b": 1, "d": 1}), 1), ("a", "b"))
        self.assertEqual(lack(parts, book, 0, Stock({"b": 2, "d": 1}), 1), ("a", "c"))
        self.assertEqual(lack(parts, book, 0, Stock({"b": 1, "d": 1, "a": 1}), 1), ("a", "b", "c"))
        self.assertIsNone(lack(parts, book, 0, Stock({"b": 1, "d": 1, "a": 2}), 1))

    def test_great_numbers(self):
        stock = Stock({"bolt": GREAT, "screw": GREAT})
        self.assertEqual(most(bolts(1), SCREWS, 0, stock), 2 * GREAT)
        self.assertEqual(most(bolts(1), EMPTY, 0, stock), GREAT)
        self.assertEqual(most(bolts(999, 0), SCREWS, 0, stock), GREAT // 999)
        few = Stock({"bolt": GREAT, "screw": GREAT // 5})
        self.assertEqual(most(bolts(3, 1), SCREWS, 0, few), (GREAT + GREAT // 5) // 3)
        self.assertIsNone(lack(bolts(1), EMPTY, 0, stock, GREAT))
        self.assertEqual(lack(bolts(2), EMPTY, 0, stock, GREAT), ("bolt",))
        stock["screw"] -= 1
        self.assertEqual(lack(bolts(2, 2), SCREWS, 0, stock, GREAT), ("bolt", "screw"))
        self.assertEqual(lack(bolts(999), EMPTY, 0, Stock(), GREAT), ("bolt",))

    def test_against_all_ways(self):
        chance = random.Random(21)
        lacks = []
        for _ in range(400):
            book, parts = some_book(chance, "abcd", 6), some_list(chance, "abcd", 3, 3)
            date, counts = chance.randrange(4), some_counts(chance, "abcd", 4)
            greatest = brute.most(parts, book, date, counts)
            self.assertEqual(most(parts, book, date, Stock(counts)), greatest)
            for many in range(greatest + 3):
                few = lack(parts, book, date, Stock(counts), many)
                self.assertEqual(few, brute.lack(parts, book, date, counts, many))
                self.assertIs(few is None, many <= greatest)
                if few is not None:
                    self.assertIs(is_lack(parts, book, date, Stock(counts), many, few), True)
                    lacks.append(len(few))
        self.assertEqual(sorted(set(lacks)), [1, 2, 3, 4])

    def test_most_in_great_stocks_is_where_lack_begins(self):
        chance = random.Random(22)
        for _ in range(100):
            book, parts = some_book(chance, "abcdefgh", 12), some_list(chance, "abcdefgh", 6, 999)
            stock = Stock(some_counts(chance, "abcdefgh", 10 ** chance.randrange(1, 29)))
            greatest = most(parts, book, 0, stock)
            self.assertIsNone(lack(parts, book, 0, stock, greatest))
            few = lack(parts, book, 0, stock, greatest + 1)
            self.assertIs(is_lack(parts, book, 0, stock, greatest + 1, few), True)
            self.assertIs(is_lack(parts, book, 0, stock, greatest, few), False)


class DealingTest(unittest.TestCase):
    def test_example(self):
        stock = Stock({"bolt": 3, "screw": 1})
        made = dealing(bolts(2, 1), SCREWS, 0, stock, 2)
        self.assertEqual(sorted(made), [(("x", ("bolt", "bolt")),), (("x", ("bolt", "screw")),)])
        self.assertIsNone(dealing(bolts(2, 1), SCREWS, 0, stock, 3))

    def test_no_things(self):
        self.assertEqual(dealing(bolts(2), EMPTY, 0, Stock(), 0), [])
        self.assertEqual(dealing(bolts(999), EMPTY, 0, Stock(), 0), [])

    def test_units_ascending_places_in_order(self):
        parts = PartsList([("y", "bolt", 3, None), ("x", "nut", 2, 1)])
        book = Allowances([("a", "bolt", 0, None), ("z", "nut", 0, None)])
        made = dealing(parts, book, 0, Stock({"bolt": 1, "a": 2, "nut": 1, "z": 1}), 1)
        self.assertEqual(made, [(("y", ("a", "a", "bolt")), ("x", ("nut", "z")))])

    def test_two_hundred_and_more(self):
        stock = Stock({"bolt": 150, "screw": GREAT})
        for number, many in [(1, 200), (2, 100), (100, 2), (200, 1)]:
            made = dealing(bolts(number), SCREWS, 0, stock, many)
            self.assertIs(is_dealing(bolts(number), SCREWS, 0, stock, many, made), True)
        for number, many in [(1, 201), (3, 67), (67, 3), (201, 1), (999, 1), (1, GREAT), (2, 101)]:
            with self.assertRaises(TooMany) as caught:
                dealing(bolts(number), SCREWS, 0, stock, many)
            self.assertEqual(caught.exception.limit, 200)

    def test_none_goes_ahead_of_too_many(self):
        stock = Stock({"bolt": 250})
        self.assertIsNone(dealing(bolts(1), SCREWS, 0, stock, 251))
        self.assertIsNone(dealing(bolts(999), SCREWS, 0, stock, GREAT))
        with self.assertRaises(TooMany):
            dealing(bolts(1), SCREWS, 0, stock, 250)

    def test_parts_that_must_change_places(self):
        # Each place is filled only if the parts in a row move on by one.
        letters = "abcdefghij"
        book = Allowances([(letters[k + 1], letters[k], 0, None) for k in range(9)])
        for order in ([0, 1, 2, 3, 4, 5, 6, 7, 8], [8, 7, 6, 5, 4, 3, 2, 1, 0], [4, 0, 8, 2, 6, 1, 7, 3, 5]):
            for missing in range(10):
                parts = PartsList([(letters[k], letters[k], 20, None) for k in order])
                stock = Stock({part: 20 for part in letters if part != letters[missing]})
                made = dealing(parts, book, 0, stock, 1)
                self.assertIs(is_dealing(parts, book, 0, stock, 1, made), True)

    def test_against_all_ways(self):
        chance = random.Random(23)
        for _ in range(500):
            book, parts = some_book(chance, "abcd", 6), some_list(chance, "abcd", 3, 3)
            date, counts = chance.randrange(4), some_counts(chance, "abcd", 6)
            stock = Stock(counts)
            things = brute.made_things(parts, book, date)
            for many in range(most(parts, book, date, stock) + 1):
                made = dealing(parts, book, date, stock, many)
                self.assertIs(is_dealing(parts, book, date, stock, many, made), True)
                self.assertTrue(set(made) <= set(things) and len(made) == many)
                units = [part for thing in made for _, filled in thing for part in filled]
                self.assertTrue(all(units.count(part) <= counts.get(part, 0) for part in units))
            self.assertIsNone(dealing(parts, book, date, stock, many + 1))

    def test_just_enough_for_great_dealings(self):
        chance = random.Random(24)
        for _ in range(60):
            book, parts = some_book(chance, "abcdefghij", 12), some_list(chance, "abcdefghij", 6, 9)
            stock = Stock(some_counts(chance, "abcdefghij", 30))
            many = min(most(parts, book, 0, stock), 200 // parts.units())
            made = dealing(parts, book, 0, stock, many)
            self.assertIs(is_dealing(parts, book, 0, stock, many, made), True)


class IsThingTest(unittest.TestCase):
    def test_things(self):
        parts = PartsList([("y", "bolt", 3, 2), ("x", "nut", 1, None)])
        for units in [("bolt", "bolt", "bolt"), ("bolt", "bolt", "screw"), ("bolt", "screw", "screw")]:
            self.assertIs(is_thing(parts, SCREWS, 0, (("y", units), ("x", ("nut",)))), True)

    def test_no_things(self):
        parts = PartsList([("y", "bolt", 3, 2), ("x", "nut", 1, None)])
        nut = ("x", ("nut",))
        good = ("y", ("bolt", "bolt", "screw"))
        self.assertIs(is_thing(parts, SCREWS, 0, (good, nut)), True)
        wrong = [[good, nut], (list(good), nut), (("y", list(good[1])), nut), (good, ["x", ("nut",)]), (nut, good),
                 (good,), (good, nut, nut), (good, good), ((*good, 1), nut), (good[:1], nut), {0: good, 1: nut}, (), []]
        units = [("screw", "screw", "screw"), ("screw", "bolt", "bolt"), ("bolt", "screw", "bolt"), ("bolt", "bolt"),
                 ("bolt", "bolt", "bolt", "bolt"), ("bolt", "bolt", "nut"), ("bolt", "bolt", "x"), (), "abc", None, 3]
        wrong += [(("y", some), nut) for some in units]
        wrong += [(("x", good[1]), nut), (good, ("y", ("nut",))), (("a", good[1]), nut)]
        for value in wrong + all_odd_values():
            self.assertIs(is_thing(parts, SCREWS, 0, value), False)

    def test_odd_values_within(self):
        thing = (("x", ("bolt", "screw")),)
        parts = bolts(2)
        self.assertIs(is_thing(parts, SCREWS, 0, thing), True)
        for value in all_odd_values() + [Agreeing(), Unwilling()]:
            for wrong in [(value,), (("x", value),), ((value, ("bolt", "screw")),), (("x", ("bolt", value)),),
                          (("x", (value, "screw")),), (("x", (value, value)),)]:
                self.assertIs(is_thing(parts, SCREWS, 0, wrong), False)

    def test_dates(self):
        book = Allowances([("screw", "bolt", 3, 5)])
        told = [is_thing(bolts(1), book, date, (("x", ("screw",)),)) for date in (2, 3, 5, 6)]
        self.assertEqual(told, [False, True, True, False])

    def test_shares(self):
        thing = (("x", ("bolt", "screw", "screw")),)
        told = [is_thing(bolts(3, share), SCREWS, 0, thing) for share in (0, 1, 2, 3, None)]
        self.assertEqual(told, [False, False, True, True, True])

    def test_more_than_ten_parts(self):
        self.assertIs(is_thing(bolts(1, None, "a"), wide_book(12), 0, (("x", ("pl",)),)), True)
        self.assertIs(is_thing(bolts(1, None, "a"), wide_book(12), 0, (("x", ("pm",)),)), False)

    def test_against_all_ways(self):
        chance = random.Random(25)
        for _ in range(60):
            book, parts = some_book(chance, "abc", 4), some_list(chance, "abc", 2, 2)
            things = brute.made_things(parts, book, 0)
            ways = [(x, y) for x in ("", "a", "b", "c") for y in ("a", "b", "c")]
            fillings = [tuple(part for part in way if part) for way in ways]
            words = parts.words()
            values = [((words[0], one),) for one in fillings]
            if len(words) == 2:
                values = [(*value, (words[1], other)) for value in values for other in fillings]
            for value in values:
                self.assertIs(is_thing(parts, book, 0, value), value in things)


class IsDealingTest(unittest.TestCase):
    def setUp(self):
        self.parts = PartsList([("x", "bolt", 2, 1), ("y", "nut", 1, None)])
        self.stock = Stock({"bolt": 3, "screw": 1, "nut": 2})
        self.one = (("x", ("bolt", "bolt")), ("y", ("nut",)))
        self.other = (("x", ("bolt", "screw")), ("y", ("nut",)))

    def check(self, many, value):
        return is_dealing(self.parts, SCREWS, 0, self.stock, many, value)

    def test_dealings(self):
        for many, value in [(0, []), (1, [self.one]), (1, [self.other]), (2, [self.one, self.other]),
                            (2, [self.other, self.one])]:
            self.assertIs(self.check(many, value), True)

    def test_no_dealings(self):
        one, other = self.one, self.other
        for many, value in [
                (2, (one, other)), (0, ()), (2, [one]), (1, [one, other]), (0, [one]), (1, []), (GREAT, [one]),
                (2, [one, one]), (2, [other, other]), (2, [one, list(other)]), (2, [one, other[:1]]),
                (2, [one, other[::-1]]), (2, [one, (("x", ["bolt", "screw"]), ("y", ("nut",)))]),
                (2, [one, (("x", ("screw", "bolt")), ("y", ("nut",)))]),
                (1, [(("x", ("screw", "screw")), ("y", ("nut",)))]), (1, [(("x", ("bolt", "nut")), ("y", ("nut",)))]),
                (1, [(("x", ("bolt", "bolt", "bolt")), ("y", ("nut",)))]), (1, [(("x", ("bolt",)), ("y", ("nut",)))]),
                (1, [(["x", ("bolt", "bolt")], ("y", ("nut",)))]), (1, [(("z", ("bolt", "bolt")), ("y", ("nut",)))]),
                (1, one), (1, {0: one}), (1, [None]), (1, [[]])]:
            self.assertIs(self.check(many, value), False)

    def test_values_of_other_kinds(self):
        for value in all_odd_values():
            for many in (0, 1, 2):
                self.assertIs(self.check(many, value), isinstance(value, list) and len(value) == 0 == many)
            self.assertIs(self.check(1, [value]), False)
            self.assertIs(self.check(2, [self.one, value]), False)

    def test_units_of_the_stock(self):
        for part in ("bolt", "screw", "nut"):
            fewer = self.stock.copy()
            fewer[part] -= 1
            self.assertIs(is_dealing(self.parts, SCREWS, 0, fewer, 2, [self.one, self.other]), False)
        more = self.stock + Stock({"bolt": GREAT - 3, "zz": 1})
        self.assertIs(is_dealing(self.parts, SCREWS, 0, more, 2, [self.one, self.other]), True)

    def test_a_part_at_several_places(self):
        parts = PartsList([("x", "bolt", 1, None), ("y", "bolt", 1, None)])
        thing = (("x", ("bolt",)), ("y", ("bolt",)))
        self.assertIs(is_dealing(parts, EMPTY, 0, Stock({"bolt": 1}), 1, [thing]), False)
        self.assertIs(is_dealing(parts, EMPTY, 0, Stock({"bolt": 2}), 1, [thing]), True)

    def test_more_than_two_hundred_units(self):
        thing = (("x", ("bolt",) * 150),)
        self.assertIs(is_dealing(bolts(150), EMPTY, 0, Stock({"bolt": 450}), 3, [thing] * 3), True)
        self.assertIs(is_dealing(bolts(150), EMPTY, 0, Stock({"bolt": 449}), 3, [thing] * 3), False)

    def test_the_value_does_not_change(self):
        value = [self.one, self.other]
        self.check(2, value)
        self.assertEqual(value, [self.one, self.other])

    def test_exchanged_units_against_the_definition(self):
        chance = random.Random(26)
        truths = []
        for _ in range(300):
            book, parts = some_book(chance, "abcd", 6), some_list(chance, "abcd", 2, 3)
            counts = some_counts(chance, "abcd", 5)
            stock = Stock(counts)
            many = most(parts, book, 0, stock)
            if not 0 < many <= 20:
                continue
            made = dealing(parts, book, 0, stock, many)
            things = brute.made_things(parts, book, 0)
            at, place = chance.randrange(many), chance.randrange(len(parts))
            word, units = made[at][place]
            changed = list(units)
            changed[chance.randrange(len(units))] = chance.choice("abcd")
            for order in sorted(set(permutations(changed))):
                thing = (*made[at][:place], (word, order), *made[at][place + 1:])
                value = [*made[:at], thing, *made[at + 1:]]
                used = [part for row in value for _, filled in row for part in filled]
                right = thing in things and all(used.count(part) <= counts.get(part, 0) for part in used)
                self.assertIs(is_dealing(parts, book, 0, stock, many, value), right)
                truths.append(right)
        self.assertEqual(sorted(set(truths)), [False, True])


class IsLackTest(unittest.TestCase):
    def setUp(self):
        self.parts = PartsList([("x", "bolt", 2, 1), ("y", "nut", 1, None)])
        self.stock = Stock({"bolt": 3, "screw": 1, "nut": 2})

    def check(self, many, value):
        return is_lack(self.parts, SCREWS, 0, self.stock, many, value)

    def test_lacks(self):
        for many, value in [(3, ("nut",)), (3, ("bolt", "screw")), (3, ("bolt", "nut", "screw")), (4, ("bolt",)),
                            (4, ("bolt", "nut")), (3, ("aa", "nut", "zz")), (GREAT, ("nut",))]:
            self.assertIs(self.check(many, value), True)

    def test_no_lacks(self):
        for many, value in [(2, ("nut",)), (2, ("bolt", "screw")), (3, ("bolt",)), (3, ("screw",)), (3, ()),
                            (0, ("nut",)), (GREAT, ("screw",)), (3, ("screw", "bolt")), (3, ("nut", "nut")),
                            (3, ["nut"]), (3, ["bolt", "screw"]), (3, {"nut": 1}), (3, "nut"), (3, ("nut", 5)),
                            (3, (5,)), (3, ("nut", "ZZ")), (3, ("", "nut")), (3, (("nut",),)),
                            (3, ("nut", "toolonger")),
                            (3, ("bolt", "screw", "screw")), (3, (None, "nut"))]:
            self.assertIs(self.check(many, value), False)

    def test_values_of_other_kinds(self):
        for value in all_odd_values():
            for many in (0, 3, 4):
                self.assertIs(self.check(many, value), isinstance(value, tuple) and value == ("bolt",) and many == 4)
            self.assertIs(self.check(3, (value,)), False)
            self.assertIs(self.check(3, (value, "nut")), False)
            self.assertIs(self.check(3, ("nut", value)), False)

    def test_parts_of_the_stock_that_fit_nowhere(self):
        stock = self.stock + Stock({"zz": 5})
        self.assertIs(is_lack(self.parts, SCREWS, 0, stock, 3, ("nut", "zz")), False)
        self.assertIs(is_lack(self.parts, SCREWS, 0, stock, 8, ("nut", "zz")), True)

    def test_what_is_accepted_is_right(self):
        chance = random.Random(27)
        truths = []
        for _ in range(150):
            book, parts = some_book(chance, "abcd", 6), some_list(chance, "abcd", 3, 3)
            counts = some_counts(chance, "abcd", 4)
            many = chance.randrange(4)
            possible = brute.can_make(parts, book, 0, counts, many)
            for value in brute.all_sets("abcde"):
                truth = is_lack(parts, book, 0, Stock(counts), many, value)
                units = sum(counts.get(part, 0) for part in value)
                self.assertIs(truth, units < many * brute.demand(parts, book, 0, value))
                self.assertFalse(truth and possible)
                truths.append(truth)
        self.assertEqual(sorted(set(truths)), [False, True])


if __name__ == "__main__":
    unittest.main()
