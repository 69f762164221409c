"""Places, lists of parts, and catalogs."""

import random
import unittest

from standinparts.allowances import Allowances
from standinparts.errors import BadList, BadPlace, RingOfLists, TooMany, UnknownList, UnknownPlace
from standinparts.lists import Catalog, PartsList, is_place
from tests.odd import Agreeing, all_odd_values, odd_values

LETTERS = "abcdefghijklmnopqrstuvwxyz"


def twelve():
    """Twelve places."""
    return [(letter, "bolt", 1, None) for letter in LETTERS[:12]]


def word_of(number):
    """A word for each number from 0 on."""
    return "".join("abcdefghij"[int(digit)] for digit in str(number))


def row_of_lists(many, number=1, places=1, share=None):
    """Lists each of which has the next one at all its places, and the last one bolts."""
    lists = {}
    for k in range(many):
        plain = "bolt" if k == many - 1 else "l" + word_of(k + 1)
        lists["l" + word_of(k)] = PartsList([(LETTERS[p], plain, number, share) for p in range(places)])
    return lists


def put_in_one_by_one(lists, word, within=()):
    """The tuples (plain, number, share) of a list as the text tells it, unit by unit in effect."""
    if word in within:
        raise RingOfLists(word)
    rows = []
    for _, plain, number, share in lists[word].places():
        if plain not in lists:
            rows.append((plain, number, share))
            continue
        for inner, units, inner_share in put_in_one_by_one(lists, plain, (*within, word)):
            rows.append((inner, units * number, None if inner_share is None else inner_share * number))
    return rows


class IsPlaceTest(unittest.TestCase):
    def test_places(self):
        for value in [("x", "bolt", 1, None), ("x", "bolt", 999, None), ("x", "bolt", 1, 0), ("x", "bolt", 1, 1),
                      ("x", "bolt", 999, 999), ("bolt", "bolt", 5, 4), ("abcdefgh", "hgfedcba", 5, 0)]:
            self.assertIs(is_place(value), True)
            self.assertIs(is_place(value=value), True)

    def test_no_places(self):
        good = ("x", "bolt", 5, 2)
        wrong = [good[:3], (*good, 1), list(good), ("x", "bolt", 0, 0), ("x", "bolt", 1000, 0), ("x", "bolt", 5, 6),
                 ("x", "bolt", 5, -1), ("x", "bolt", 0, None), ("x", "bolt", -1, None), ("x", "bolt", 1, True),
                 ("x", "bolt", 1, False), ("x", "bolt", True, None), "abcd"]
        for at in range(4):
            for value in odd_values() + [[], (), {}, ("a",), ["a"], 10 ** 9, -1]:
                if at != 3 or value is not None:
                    wrong.append((*good[:at], value, *good[at + 1:]))
        for value in wrong + all_odd_values():
            self.assertIs(is_place(value), False)


class MakingListsTest(unittest.TestCase):
    def test_places_in_order(self):
        rows = [("y", "nut", 2, 1), ("x", "bolt", 3, None), ("a", "nut", 999, 0)]
        for given in (rows, tuple(rows)):
            parts = PartsList(given)
            self.assertEqual(parts.places(), rows)
            self.assertEqual(parts.words(), ["y", "x", "a"])
            self.assertEqual(parts.units(), 1004)
            self.assertEqual(len(parts), 3)
        self.assertEqual(PartsList(places=rows).places(), rows)

    def test_no_list_or_empty(self):
        for value in odd_values() + [[], (), {}, {"x": 1}, "abc", 5, iter([]), PartsList(twelve())]:
            with self.assertRaises(BadPlace) as caught:
                PartsList(value)
            self.assertIsNone(caught.exception.index)

    def test_index_of_the_first_bad_one(self):
        for at in (0, 1, 11):
            for value in all_odd_values() + [["x", "bolt", 1, None]]:
                places = twelve()
                places[at] = value
                with self.assertRaises(BadPlace) as caught:
                    PartsList(places + [None])
                self.assertEqual(caught.exception.index, at)

    def test_index_of_the_first_double_word(self):
        with self.assertRaises(BadPlace) as caught:
            PartsList([("x", "a", 1, None), ("y", "a", 1, None), ("y", "b", 2, 1), ("x", "a", 1, None), None])
        self.assertEqual(caught.exception.index, 2)
        with self.assertRaises(BadPlace) as caught:
            PartsList([("x", "a", 1, None), None, ("x", "a", 1, None)])
        self.assertEqual(caught.exception.index, 1)

    def test_twelve_and_thirteen(self):
        self.assertEqual(PartsList(twelve()).places(), twelve())
        for more in (1, 2, 9):
            with self.assertRaises(TooMany) as caught:
                PartsList(twelve() + [("z" + LETTERS[k], "bolt", 1, None) for k in range(more)])
            self.assertEqual(caught.exception.limit, 12)
        for value in (None, ("a", "bolt", 1, None)):
            with self.assertRaises(BadPlace) as caught:
                PartsList(twelve() + [value])
            self.assertEqual(caught.exception.index, 12)

    def test_nothing_is_kept_or_changed(self):
        rows = [("x", "bolt", 1, None), ("y", "nut", 1, None)]
        parts = PartsList(rows)
        self.assertEqual(rows, [("x", "bolt", 1, None), ("y", "nut", 1, None)])
        rows[0] = ("z", "nut", 5, 5)
        parts.places().clear()
        parts.words().append("z")
        self.assertEqual(parts.places(), [("x", "bolt", 1, None), ("y", "nut", 1, None)])
        self.assertEqual(parts.words(), ["x", "y"])


class ListOperatorsTest(unittest.TestCase):
    def setUp(self):
        self.parts = PartsList([("x", "bolt", 3, None), ("y", "nut", 2, 1), ("b", "x", 1, 0)])

    def test_in_and_item(self):
        for place in self.parts.places():
            self.assertIs(place[0] in self.parts, True)
            self.assertEqual(self.parts[place[0]], place)
        for value in all_odd_values() + ["bolt", "nut", "z", 0, ("x", "bolt", 3, None), slice(0, 1), Agreeing()]:
            self.assertIs(value in self.parts, False)
            with self.assertRaises(UnknownPlace) as caught:
                self.parts[value]
            self.assertIs(caught.exception.word, value)
        with self.assertRaises(UnknownPlace) as caught:
            self.parts["x", "y"]
        self.assertEqual(caught.exception.word, ("x", "y"))

    def test_sum(self):
        more = PartsList([("a", "bolt", 1, None)])
        self.assertEqual((self.parts + more).places(), self.parts.places() + more.places())
        self.assertEqual((more + self.parts).words(), ["a", "x", "y", "b"])
        self.assertEqual([len(self.parts), len(more)], [3, 1])

    def test_sum_with_something_else(self):
        for value in all_odd_values() + [[("a", "bolt", 1, None)], ("a", "bolt", 1, None)]:
            with self.assertRaises(BadList) as caught:
                self.parts + value
            self.assertIs(caught.exception.value, value)

    def test_sum_raises_as_the_class(self):
        with self.assertRaises(BadPlace) as caught:
            self.parts + PartsList([("a", "nut", 1, None), ("y", "bolt", 1, None), ("x", "bolt", 1, None)])
        self.assertEqual(caught.exception.index, 4)
        self.assertEqual(len(PartsList(twelve()[:5]) + PartsList(twelve()[5:])), 12)
        with self.assertRaises(TooMany) as caught:
            PartsList(twelve()) + PartsList([("z", "nut", 1, None)])
        self.assertEqual(caught.exception.limit, 12)
        with self.assertRaises(BadPlace) as caught:
            PartsList(twelve()) + PartsList([("z", "nut", 1, None), ("l", "nut", 1, None)])
        self.assertEqual(caught.exception.index, 13)

    def test_times(self):
        places = [("x", "bolt", 9, None), ("y", "nut", 6, 3), ("b", "x", 3, 0)]
        self.assertEqual((self.parts * 3).places(), places)
        self.assertEqual((3 * self.parts).places(), places)
        self.assertEqual(self.parts * 1, self.parts)
        self.assertEqual(self.parts.units(), 6)
        self.assertEqual((self.parts * 333).places()[0], ("x", "bolt", 999, None))
        self.assertEqual((999 * PartsList([("x", "bolt", 1, 1)])).places(), [("x", "bolt", 999, 999)])

    def test_times_something_else(self):
        for value in odd_values() + [0, -1, 1000, 10 ** 40, [], [1], (), (1,), {}, "ab", 2.0, self.parts]:
            with self.assertRaises(BadPlace) as caught:
                self.parts * value
            self.assertIsNone(caught.exception.index)
            with self.assertRaises(BadPlace) as caught:
                value * self.parts
            self.assertIsNone(caught.exception.index)

    def test_times_raises_as_the_class(self):
        for number, index in [(334, 0), (999, 0)]:
            with self.assertRaises(BadPlace) as caught:
                self.parts * number
            self.assertEqual(caught.exception.index, index)
        with self.assertRaises(BadPlace) as caught:
            500 * PartsList([("x", "bolt", 1, None), ("y", "bolt", 1, 0), ("z", "bolt", 2, None)])
        self.assertEqual(caught.exception.index, 2)

    def test_equal(self):
        rows = self.parts.places()
        self.assertIs(self.parts == PartsList(tuple(rows)), True)
        self.assertIs(self.parts != PartsList(rows), False)
        self.assertIs(self.parts == PartsList(rows[::-1]), False)
        self.assertIs(self.parts == PartsList(rows[:2]), False)
        self.assertIs(PartsList([("x", "a", 2, 2)]) == PartsList([("x", "a", 2, None)]), False)

    def test_not_equal_to_another_class(self):
        for value in all_odd_values() + [self.parts.places(), Allowances()]:
            self.assertIs(self.parts == value, False)

    def test_no_iteration(self):
        for deed in (iter, list, tuple, sorted, enumerate):
            with self.assertRaises(TypeError):
                deed(self.parts)


class MakingCatalogsTest(unittest.TestCase):
    def setUp(self):
        self.wheel = PartsList([("x", "rim", 1, None)])

    def test_words_and_items(self):
        cart = PartsList([("w", "wheel", 2, None)])
        catalog = Catalog({"wheel": self.wheel, "cart": cart})
        self.assertEqual([catalog.words(), len(catalog)], [["cart", "wheel"], 2])
        self.assertEqual([catalog["wheel"], catalog["cart"]], [self.wheel, cart])
        self.assertEqual([Catalog({}).words(), len(Catalog(lists={}))], [[], 0])
        self.assertIs("cart" in catalog, True)
        for value in all_odd_values() + ["rim", "w", 0, slice(0, 1), ("cart", "wheel")]:
            self.assertIs(value in catalog, False)
            with self.assertRaises(UnknownList) as caught:
                catalog[value]
            self.assertIs(caught.exception.word, value)
            with self.assertRaises(UnknownList) as caught:
                catalog.opened(value)
            self.assertIs(caught.exception.word, value)

    def test_no_dict(self):
        for value in odd_values() + [[], (), [("a", self.wheel)], self.wheel, 5, "a"]:
            with self.assertRaises(BadList) as caught:
                Catalog(value)
            self.assertIs(caught.exception.value, value)

    def test_bad_keys_and_values(self):
        for key in [None, True, 1, "", "A", "abcdefghi", ("a",), 1.5, b"a"]:
            with self.assertRaises(UnknownList) as caught:
                Catalog({"b": self.wheel, key: None, "a": None})
            self.assertIs(caught.exception.word, key)
        for value in all_odd_values() + [{"a": self.wheel}, [self.wheel], self.wheel.places()]:
            with self.assertRaises(BadList) as caught:
                Catalog({"b": self.wheel, "a": value, "": self.wheel})
            self.assertIs(caught.exception.value, value)

    def test_forty_and_forty_one(self):
        lists = {"a" + word_of(k): self.wheel for k in range(40)}
        self.assertEqual(len(Catalog(lists)), 40)
        with self.assertRaises(TooMany) as caught:
            Catalog({**lists, "b": self.wheel})
        self.assertEqual(caught.exception.limit, 40)
        with self.assertRaises(UnknownList) as caught:
            Catalog({**lists, "B": self.wheel})
        self.assertEqual(caught.exception.word, "B")
        with self.assertRaises(BadList) as caught:
            Catalog({**lists, "b": 7})
        self.assertEqual(caught.exception.value, 7)

    def test_nothing_is_kept_or_changed(self):
        lists = {"wheel": self.wheel}
        catalog = Catalog(lists)
        lists["cart"] = self.wheel
        del lists["wheel"]
        catalog.words().append("cart")
        self.assertEqual([catalog.words(), len(catalog), catalog["wheel"]], [["wheel"], 1, self.wheel])

    def test_no_iteration(self):
        for deed in (iter, list, tuple, sorted, enumerate):
            with self.assertRaises(TypeError):
                deed(Catalog({"wheel": self.wheel}))


class OpenedTest(unittest.TestCase):
    def test_example(self):
        wheel = PartsList([('x', 'rim', 1, None), ('y', 'spoke', 6, 2)])
        places = Catalog({'cart': PartsList([('w', 'wheel', 2, None)]), 'wheel': wheel}).opened('cart').places()
        self.assertEqual(places, [('a', 'rim', 2, None), ('b', 'spoke', 12, 4)])

    def test_places_get_new_words(self):
        opened = Catalog({"x": PartsList([("z", "bolt", 3, 1), ("a", "nut", 1, None)])}).opened(word="x")
        self.assertIsInstance(opened, PartsList)
        self.assertEqual(opened.places(), [("a", "bolt", 3, 1), ("b", "nut", 1, None)])
        self.assertEqual(Catalog({"x": PartsList(twelve())}).opened("x").words(), list(LETTERS[:12]))

    def test_place_by_place(self):
        lists = {"top": PartsList([("x", "p", 1, None), ("y", "in", 2, None), ("z", "q", 1, None), ("w", "in", 1, 0)]),
                 "in": PartsList([("x", "r", 2, 1), ("y", "deep", 3, 1)]),
                 "deep": PartsList([("x", "s", 1, None), ("y", "t", 5, 0)])}
        rows = [("p", 1, None), ("r", 4, 2), ("s", 6, None), ("t", 30, 0), ("q", 1, None), ("r", 2, 1), ("s", 3, None),
                ("t", 15, 0)]
        places = [(letter, *row) for letter, row in zip(LETTERS, rows)]
        self.assertEqual(Catalog(lists).opened("top").places(), places)
        self.assertEqual(Catalog(lists).opened("deep").places(), [("a", "s", 1, None), ("b", "t", 5, 0)])

    def test_own_share_counts_no_more(self):
        for share in (None, 0, 1, 4):
            lists = {"top": PartsList([("x", "in", 4, share)]),
                     "in": PartsList([("x", "r", 2, 1), ("y", "s", 1, None)])}
            self.assertEqual(Catalog(lists).opened("top").places(), [("a", "r", 8, 4), ("b", "s", 4, None)])

    def test_the_catalog_does_not_change(self):
        top = PartsList([("x", "in", 4, None)])
        catalog = Catalog({"top": top, "in": PartsList([("x", "r", 2, 1)])})
        self.assertEqual(catalog.opened("top"), catalog.opened("top"))
        self.assertEqual(catalog["top"].places(), [("x", "in", 4, None)])

    def test_rings(self):
        def part_lists(**rows):
            return {word: PartsList([(LETTERS[k], plain, 1, None) for k, plain in enumerate(plains.split())])
                    for word, plains in rows.items()}
        for lists, word, ring in [
                (part_lists(a="a"), "a", "a"),
                (part_lists(a="p q a"), "a", "a"),
                (part_lists(a="b", b="a"), "a", "a"),
                (part_lists(a="b", b="a"), "b", "b"),
                (part_lists(a="b", b="c", c="b"), "a", "b"),
                (part_lists(a="b", b="c", c="c"), "a", "c"),
                (part_lists(a="b c a", b="p", c="d", d="c"), "a", "c"),
                (part_lists(a="b a", b="c", c="b"), "a", "b"),
                (part_lists(a="b a", b="p", c="b"), "a", "a"),
                (part_lists(a="b c d", b="c d", c="d", d="p b"), "a", "b")]:
            with self.assertRaises(RingOfLists) as caught:
                Catalog(lists).opened(word)
            self.assertEqual(caught.exception.word, ring)

    def test_a_ring_elsewhere_does_no_harm(self):
        lists = {"a": PartsList([("x", "bolt", 1, None)]), "b": PartsList([("x", "b", 1, None)])}
        self.assertEqual(Catalog(lists).opened("a").places(), [("a", "bolt", 1, None)])

    def test_rings_of_forty(self):
        lists = row_of_lists(40, places=12)
        lists["ldj"] = PartsList([("x", "la", 1, None)])
        for word in lists:
            with self.assertRaises(RingOfLists) as caught:
                Catalog(lists).opened(word)
            self.assertEqual(caught.exception.word, word)

    def test_a_ring_goes_ahead_of_too_many_and_bad_places(self):
        lists = row_of_lists(3, number=999, places=12)
        lists["top"] = PartsList([("x", "la", 999, None), ("y", "la", 1, None), ("z", "top", 1, None)])
        with self.assertRaises(RingOfLists) as caught:
            Catalog(lists).opened("top")
        self.assertEqual(caught.exception.word, "top")

    def test_twelve_and_thirteen(self):
        lists = {"six": PartsList(twelve()[:6]), "seven": PartsList(twelve()[:7]),
                 "twelve": PartsList([("x", "six", 1, None), ("y", "six", 1, None)]),
                 "thirteen": PartsList([("x", "six", 1, None), ("y", "seven", 1, None)])}
        self.assertEqual(len(Catalog({**lists}).opened("twelve")), 12)
        with self.assertRaises(TooMany) as caught:
            Catalog(lists).opened("thirteen")
        self.assertEqual(caught.exception.limit, 12)

    def test_too_many_to_put_in_one_by_one(self):
        for places in (2, 12):
            with self.assertRaises(TooMany) as caught:
                Catalog(row_of_lists(40, number=999, places=places)).opened("la")
            self.assertEqual(caught.exception.limit, 12)

    def test_too_many_goes_ahead_of_bad_places(self):
        lists = {"top": PartsList([("x", "in", 999, None)]), "in": PartsList([*twelve()[:11], ("l", "on", 2, None)]),
                 "on": PartsList(twelve()[:2])}
        with self.assertRaises(TooMany):
            Catalog(lists).opened("top")

    def test_forty_deep(self):
        places = Catalog(row_of_lists(40)).opened("la").places()
        self.assertEqual(places, [("a", "bolt", 1, None)])
        self.assertEqual(Catalog(row_of_lists(9, number=2, share=1)).opened("la").places(), [("a", "bolt", 512, 256)])

    def test_numbers_that_grow_too_great(self):
        for lists in (row_of_lists(40, number=999), row_of_lists(40, number=999, share=0), row_of_lists(10, number=2)):
            with self.assertRaises(BadPlace) as caught:
                Catalog(lists).opened("la")
            self.assertEqual(caught.exception.index, 0)
        lists = {"top": PartsList([("x", "bolt", 999, None), ("y", "in", 500, None)]),
                 "in": PartsList([("x", "nut", 1, None), ("y", "pin", 2, None), ("z", "pin", 3, None)])}
        with self.assertRaises(BadPlace) as caught:
            Catalog(lists).opened("top")
        self.assertEqual(caught.exception.index, 2)

    def test_against_putting_in_one_by_one(self):
        chance = random.Random(8)
        seen = []
        for _ in range(600):
            words = "abcde"[:chance.randrange(1, 6)]
            plains = words + "pqrstuvw"[:chance.randrange(1, 9)]
            lists = {}
            for word in words:
                rows = []
                for k in range(chance.randrange(1, 5)):
                    number = chance.choice([1, 2, 3, 40])
                    rows.append((LETTERS[k], chance.choice(plains), number, chance.choice([None, 0, number])))
                lists[word] = PartsList(rows)
            self.check(Catalog(lists), lists, seen)
        self.assertEqual(sorted(set(seen)), ["bad", "made", "many", "ring"])

    def check(self, catalog, lists, seen):
        """Compares what is opened with the definition, and notes in seen what came."""
        for word in lists:
            try:
                rows = put_in_one_by_one(lists, word)
            except RingOfLists as ring:
                with self.assertRaises(RingOfLists) as caught:
                    catalog.opened(word)
                self.assertEqual(caught.exception.word, ring.word)
                seen.append("ring")
                continue
            great = [k for k, row in enumerate(rows) if row[1] > 999]
            if len(rows) > 12:
                with self.assertRaises(TooMany):
                    catalog.opened(word)
                seen.append("many")
            elif great:
                with self.assertRaises(BadPlace) as caught:
                    catalog.opened(word)
                self.assertEqual(caught.exception.index, great[0])
                seen.append("bad")
            else:
                places = [(letter, *row) for letter, row in zip(LETTERS, rows)]
                self.assertEqual(catalog.opened(word).places(), places)
                seen.append("made")


if __name__ == "__main__":
    unittest.main()
