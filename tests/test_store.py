"""The store: its steps, taking them back, and trying."""

import random
import time
import unittest

from standinparts.allowances import Allowances
from standinparts.errors import (BadAllowance, BadCount, BadDate, BadMany, BadPart, Lacking, NothingToUndo, PartsError,
                                 TooMany)
from standinparts.lists import PartsList
from standinparts.making import dealing, is_dealing, lack, most
from standinparts.needs import stock_behind
from standinparts.stocks import Stock
from standinparts.store import Store
from tests.odd import all_odd_values, odd_values
from tests.samples import some_book, some_counts, some_list, wide_book

EMPTY = Allowances()
GREAT = 10 ** 30
PARTS = PartsList([("x", "bolt", 2, 1), ("y", "nut", 1, None)])
SCREW = ("screw", "bolt", 0, None)


def filled():
    """A store behind four steps."""
    store = Store(PARTS, EMPTY, Stock({"bolt": 9, "nut": 5}))
    store.come("screw", 3)
    store.allow(SCREW)
    store.make(0, 2)
    store.come("nut", 1)
    return store


def shown(store):
    """All that a store tells of itself."""
    tried = []
    for date in (0, 3, 9999):
        try:
            tried.append(store.most(date))
        except TooMany as error:
            tried.append(-error.limit)
    stock = store.held()
    return {part: stock[part] for part in stock.parts()}, store.made, len(store), tried


def unwound(store):
    """All that a store tells of itself behind each step taken back, itself left as it was."""
    with store.trying():
        told = [shown(store)]
        while len(store) > 0:
            store.undo()
            told.append(shown(store))
    return told


class PlainStore:
    """The same, kept as a list of all that was there: tuples (allowances, stock, made)."""

    def __init__(self, parts_list, allowances, stock):
        self.parts_list = parts_list
        self.past = [(allowances, stock, 0)]

    def do(self, act, *given):
        """Does a step, or raises its error, and tells the answer."""
        book, stock, made = self.past[-1]
        answer = None
        if act == "put":
            stock = given[0].copy()
        if act == "come":
            stock = stock + Stock({given[0]: given[1]})
        if act == "allow":
            book = book + given[0]
        if act == "make":
            few = lack(self.parts_list, book, given[0], stock, given[1])
            if few is not None:
                raise Lacking(few)
            answer = dealing(self.parts_list, book, given[0], stock, given[1])
            stock, made = stock_behind(stock, answer), made + given[1]
        if act == "undo":
            if len(self.past) == 1:
                raise NothingToUndo(None)
            self.past.pop()
        else:
            self.past.append((book, stock, made))
        return answer


def some_step(chance):
    """A step with what it is given, not always one that is done."""
    act = chance.choice(["come", "come", "allow", "make", "make", "put", "undo", "undo"])
    if act == "come":
        return act, chance.choice("abcd"), chance.choice([0, 1, 2, 5, GREAT])
    if act == "allow":
        since = chance.randrange(4)
        return act, (chance.choice("abc"), chance.choice("abc"), since, chance.choice([None, since, since - 1]))
    if act == "make":
        return act, chance.choice([0, 1, 2, 3, 10000]), chance.choice([0, 1, 1, 2, 3, -1])
    if act == "put":
        return act, Stock(some_counts(chance, "abc", 9))
    return (act,)


def done(call, *given):
    """What a call answers, or its error with what it holds."""
    try:
        return call(*given)
    except (PartsError, TooMany, NothingToUndo) as error:
        return type(error).__name__, vars(error)


class ErrorsTest(unittest.TestCase):
    def check(self, error, name, value, call):
        with self.assertRaises(error) as caught:
            call()
        self.assertIs(getattr(caught.exception, name), value)

    def unchanged(self, error, name, value, call):
        """That a call on a store raises an error, and nothing has changed."""
        store = filled()
        ahead = unwound(store)
        self.check(error, name, value, lambda: call(store))
        self.assertEqual(unwound(store), ahead)

    def test_making_a_store(self):
        for value in all_odd_values() + [7, "list", [("x", "bolt", 2, 1)]]:
            for given, name in [((value, value, value), "list"), ((PARTS, value, value), "allowances"),
                                ((PARTS, EMPTY, value), "stock"), ((value, EMPTY, Stock()), "list"),
                                ((PARTS, value, Stock()), "allowances")]:
                with self.assertRaises(BadPart) as caught:
                    Store(*given)
                self.assertEqual(caught.exception.part, name)
        for given, name in [((EMPTY, PARTS, Stock()), "list"), ((PARTS, Stock(), EMPTY), "allowances"),
                            ((PARTS, EMPTY, {"bolt": 3}), "stock"), ((PARTS, EMPTY, None), "stock")]:
            with self.assertRaises(BadPart) as caught:
                Store(*given)
            self.assertEqual(caught.exception.part, name)

    def test_put(self):
        for value in all_odd_values() + [{"bolt": 3}, EMPTY]:
            store = filled()
            ahead = unwound(store)
            with self.assertRaises(BadPart) as caught:
                store.put(value)
            self.assertEqual(caught.exception.part, "stock")
            self.assertEqual(unwound(store), ahead)

    def test_come(self):
        for value in all_odd_values():
            self.unchanged(BadPart, "part", value, lambda store: store.come(value, 1))
            self.unchanged(BadPart, "part", value, lambda store: store.come(value, value))
        for value in odd_values() + [-1, "1", [], (), {}, [1], GREAT + 1, 10 ** 40]:
            self.unchanged(BadCount, "part", "bolt", lambda store: store.come("bolt", value))
            self.unchanged(BadCount, "part", "axe", lambda store: store.come("axe", value))
        for number, more in [(GREAT, 0), (GREAT - 5, 6), (1, GREAT)]:
            store = Store(PARTS, EMPTY, Stock({"bolt": number}))
            if number + more > GREAT:
                self.check(BadCount, "part", "bolt", lambda: store.come("bolt", more))
                self.assertEqual(shown(store)[0], {"bolt": number})
            else:
                store.come("bolt", more)
        store.come("bolt", GREAT - 1)
        self.assertEqual(store.held()["bolt"], GREAT)

    def test_allow(self):
        for value in all_odd_values() + [list(SCREW), SCREW, ("a", "b", 3, 2), (*SCREW, 1)]:
            with self.assertRaises(BadAllowance) as caught:
                filled().allow(value)
            self.assertEqual(caught.exception.index, 1)
            self.unchanged(BadAllowance, "index", 1, lambda store: store.allow(value))
        store = Store(PARTS, wide_book(12), Stock())
        self.check(TooMany, "limit", 12, lambda: store.allow(SCREW))
        self.check(BadAllowance, "index", 12, lambda: store.allow(None))
        self.assertEqual(shown(store)[:3], ({}, 0, 0))

    def test_make(self):
        for value in all_odd_values():
            self.unchanged(BadDate, "date", value, lambda store: store.make(value, value))
            self.unchanged(BadDate, "date", value, lambda store: store.most(value))
        for value in odd_values() + [-1, GREAT + 1, "1", [], (), {}]:
            self.unchanged(BadMany, "many", value, lambda store: store.make(0, value))
        for many, few in [(4, None), (5, ("nut",)), (GREAT, ("bolt",))]:
            store = filled()
            if few is not None:
                with self.assertRaises(Lacking) as caught:
                    store.make(0, many)
                self.assertEqual(caught.exception.few, few)
                self.assertEqual(unwound(store), unwound(filled()))
            self.assertEqual(lack(PARTS, Allowances([SCREW]), 0, store.held(), many), few)
        store = Store(PartsList([("x", "a", 1, None)]), wide_book(10), Stock())
        self.check(TooMany, "limit", 10, lambda: store.make(0, None))
        self.check(TooMany, "limit", 10, lambda: store.most(0))

    def test_more_than_two_hundred_units(self):
        store = Store(PARTS, EMPTY, Stock({"bolt": 150, "nut": 70}))
        self.check(TooMany, "limit", 200, lambda: store.make(0, 67))
        with self.assertRaises(Lacking) as caught:
            store.make(0, 71)
        self.assertEqual(caught.exception.few, ("nut",))
        self.assertEqual(shown(store)[1:3], (0, 0))
        self.assertEqual(len(store.make(0, 66)), 66)
        self.assertEqual([store.made, store.most(0)], [66, 4])

    def test_nothing_to_undo(self):
        store = Store(PARTS, EMPTY, Stock({"nut": 1}))
        for _ in range(2):
            self.check(NothingToUndo, "index", None, store.undo)
        store.come("nut", 1)
        store.undo()
        self.check(NothingToUndo, "index", None, store.undo)
        self.assertEqual(store.held(), Stock({"nut": 1}))

    def test_by_name(self):
        store = Store(stock=Stock({"bolt": 4, "nut": 2}), allowances=EMPTY, parts_list=PARTS)
        store.come(number=3, part="screw")
        store.allow(row=SCREW)
        self.assertEqual(store.most(date=0), 2)
        self.assertEqual(len(store.make(many=1, date=0)), 1)
        store.put(value=Stock())
        self.assertEqual(store.attempt(deed=len), 4)


class StepsTest(unittest.TestCase):
    def test_ordinary(self):
        store = Store(PARTS, EMPTY, Stock({"bolt": 3, "nut": 5}))
        self.assertEqual(shown(store), ({"bolt": 3, "nut": 5}, 0, 0, [1, 1, 1]))
        self.assertIsNone(store.come("screw", 1))
        self.assertIsNone(store.allow(SCREW))
        self.assertEqual(shown(store), ({"bolt": 3, "nut": 5, "screw": 1}, 0, 2, [2, 2, 2]))
        ahead = store.held()
        things = store.make(0, 2)
        self.assertIs(is_dealing(PARTS, Allowances([SCREW]), 0, ahead, 2, things), True)
        self.assertEqual(shown(store), ({"nut": 3}, 2, 3, [0, 0, 0]))
        self.assertIsNone(store.put(Stock({"bolt": 8})))
        self.assertEqual(shown(store), ({"bolt": 8}, 2, 4, [0, 0, 0]))
        self.assertIsNone(store.undo())
        self.assertEqual(shown(store), ({"nut": 3}, 2, 3, [0, 0, 0]))
        store.undo()
        self.assertEqual(shown(store), ({"bolt": 3, "nut": 5, "screw": 1}, 0, 2, [2, 2, 2]))
        store.undo()
        store.undo()
        self.assertEqual(shown(store), ({"bolt": 3, "nut": 5}, 0, 0, [1, 1, 1]))

    def test_steps_that_change_nothing_are_steps(self):
        store = Store(PARTS, EMPTY, Stock())
        store.come("bolt", 0)
        self.assertEqual(store.make(0, 0), [])
        store.put(Stock())
        self.assertEqual([len(store), store.made, len(store.held())], [3, 0, 0])
        store.most(0)
        store.held()
        self.assertEqual(len(store), 3)

    def test_what_is_handed_in_or_told_may_be_changed(self):
        stock = Stock({"bolt": 3, "nut": 5})
        store = Store(PARTS, EMPTY, stock)
        stock["bolt"] = 100
        self.assertEqual(store.held()["bolt"], 3)
        held = store.held()
        held["bolt"] = 100
        self.assertEqual(store.held()["bolt"], 3)
        other = Stock({"bolt": 4, "nut": 4})
        store.put(other)
        other["bolt"] = 100
        self.assertEqual(store.held()["bolt"], 4)
        things = store.make(0, 1)
        things.clear()
        self.assertEqual(shown(store), ({"bolt": 2, "nut": 3}, 1, 2, [1, 1, 1]))
        store.undo()
        store.undo()
        self.assertEqual(shown(store), ({"bolt": 3, "nut": 5}, 0, 0, [1, 1, 1]))

    def test_books_go_on_as_they_were(self):
        book = Allowances([SCREW], through=True)
        store = Store(PARTS, book, Stock({"pin": 4, "nut": 2}))
        store.allow(("pin", "screw", 0, None))
        self.assertEqual([store.most(0), len(book)], [0, 1])
        store.come("bolt", 2)
        self.assertEqual(store.most(0), 2)

    def test_made_is_only_told(self):
        store = filled()
        with self.assertRaises(AttributeError):
            store.made = 3
        self.assertIsInstance(vars(Store)["made"], property)

    def test_against_a_plain_keeping(self):
        chance = random.Random(271)
        seen = set()
        for _ in range(150):
            book, parts = some_book(chance, "abc", 3), some_list(chance, "abc", 2, 2)
            stock = Stock(some_counts(chance, "abc", 9))
            store, plain = Store(parts, book, stock), PlainStore(parts, book, stock)
            for _ in range(25):
                act, *given = some_step(chance)
                date = given[0] if act == "make" else 0
                ahead = store.held()
                answer = done(getattr(store, act), *given)
                self.assertEqual(answer, done(plain.do, act, *given))
                now_book, now_stock, made = plain.past[-1]
                self.assertEqual((store.held(), store.made, len(store)), (now_stock, made, len(plain.past) - 1))
                for day in (0, 2, 5):
                    self.assertEqual(store.most(day), most(parts, now_book, day, now_stock))
                if isinstance(answer, list):
                    self.assertIs(is_dealing(parts, now_book, date, ahead, given[1], answer), True)
                seen.add((act, answer[0] if isinstance(answer, tuple) else "done"))
        self.assertEqual(seen, {("come", "done"), ("come", "BadCount"), ("allow", "done"), ("allow", "BadAllowance"),
                                ("make", "done"), ("make", "Lacking"), ("make", "BadDate"), ("make", "BadMany"),
                                ("put", "done"), ("undo", "done"), ("undo", "NothingToUndo")})

    def test_calls_take_no_long_time(self):
        begin = time.process_time()
        store = Store(PARTS, EMPTY, Stock())
        for k in range(2000):
            store.come("bolt", k)
            store.attempt(lambda held: held.come("nut", 1))
        for _ in range(2000):
            store.undo()
        self.assertEqual(shown(store), ({}, 0, 0, [0, 0, 0]))
        self.assertLess(time.process_time() - begin, 10)


class TryingTest(unittest.TestCase):
    def deeds(self):
        """Functions of a store that leave it otherwise, with what they return, or None where they raise."""
        outer = self.store

        def raising(store):
            store.come("bolt", 9)
            raise KeyError("deed")

        def wrong(store):
            store.undo()
            store.come("bolt", -1)

        def emptied(store):
            while len(store) > 0:
                store.undo()
            store.put(Stock({"axe": 1}))
            store.come("axe", 1)
            return len(store)

        def again(store):
            told = store.attempt(emptied)
            store.come("bolt", 1)
            with store.trying() as within:
                within.make(0, 1)
                within.undo()
                within.undo()
                within.undo()
            return told, len(store), store.held()["bolt"]

        def raising_within(store):
            store.undo()
            try:
                store.attempt(raising)
            except KeyError:
                store.come("nut", 2)
            return len(store)

        return [(lambda store: len(store.make(0, 1)), 1),
                (lambda store: store.allow(("nail", "nut", 0, None)), None), (lambda store: store, self.store),
                (lambda store: store.undo(), None), (lambda store: outer.come("bolt", 3), None), (emptied, 2),
                (again, (2, 5, 6)), (raising_within, 4), (raising, KeyError), (wrong, BadCount),
                (lambda store: None, None), (lambda store: store.put(None), BadPart)]

    def setUp(self):
        self.store = filled()
        self.ahead = unwound(self.store)

    def check(self):
        """That the store is as it was, its steps too."""
        self.assertEqual(unwound(self.store), self.ahead)
        self.store.undo()
        self.store.undo()
        self.assertEqual(self.store.made, 0)
        self.store.make(0, 2)
        self.store.come("nut", 1)
        self.assertEqual(unwound(self.store), self.ahead)

    def test_attempts(self):
        for at, (deed, told) in enumerate(self.deeds()):
            with self.subTest(at=at):
                if isinstance(told, type):
                    with self.assertRaises(told):
                        self.store.attempt(deed)
                else:
                    answer = self.store.attempt(deed)
                    self.assertTrue(answer is told or answer == told)
                self.check()

    def test_trying(self):
        for at, (deed, told) in enumerate(self.deeds()):
            with self.subTest(at=at):
                if isinstance(told, type):
                    with self.assertRaises(told):
                        with self.store.trying() as store:
                            deed(store)
                else:
                    with self.store.trying() as store:
                        self.assertIs(store, self.store)
                        answer = deed(store)
                        self.assertTrue(answer is told or answer == told)
                self.check()

    def test_ahead_of_the_block(self):
        trying = self.store.trying()
        self.store.undo()
        ahead = unwound(self.store)
        with trying as store:
            store.undo()
            store.put(Stock())
        self.assertEqual(unwound(self.store), ahead)

    def test_blocks_within_blocks(self):
        with self.store.trying() as one:
            one.come("bolt", 1)
            middle = unwound(one)
            with one.trying() as other:
                other.undo()
                other.undo()
                other.put(Stock())
                self.assertEqual(len(other), 4)
            self.assertEqual(unwound(one), middle)
            one.come("bolt", 1)
        self.check()

    def test_leaving_the_block(self):
        def returning():
            with self.store.trying() as store:
                store.undo()
                return len(store)

        self.assertEqual(returning(), 3)
        self.check()
        for _ in range(2):
            with self.store.trying() as store:
                store.undo()
                break
        self.check()

    def test_interrupts(self):
        def interrupted(store):
            store.undo()
            raise KeyboardInterrupt

        with self.assertRaises(KeyboardInterrupt):
            self.store.attempt(interrupted)
        with self.assertRaises(KeyboardInterrupt):
            with self.store.trying() as store:
                interrupted(store)
        self.check()

    def test_objects_told_within(self):
        kept = self.store.attempt(lambda store: store.held())
        kept["bolt"] = 77
        self.check()

    def test_drawn_deeds(self):
        chance = random.Random(272)
        for _ in range(100):
            store = Store(some_list(chance, "abc", 2, 2), some_book(chance, "abc", 3), Stock({"a": 9, "b": 9, "c": 9}))
            for _ in range(10):
                act, *given = some_step(chance)
                done(getattr(store, act), *given)
            ahead = unwound(store)

            def deed(held):
                for _ in range(12):
                    act, *given = some_step(chance)
                    done(getattr(held, act), *given)
                if chance.random() < 0.3:
                    held.attempt(deed)
                if chance.random() < 0.3:
                    raise ZeroDivisionError
                return len(held)

            try:
                store.attempt(deed)
            except ZeroDivisionError:
                pass
            self.assertEqual(unwound(store), ahead)
            try:
                with store.trying() as held:
                    deed(held)
            except ZeroDivisionError:
                pass
            self.assertEqual(unwound(store), ahead)


if __name__ == "__main__":
    unittest.main()
