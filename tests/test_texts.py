"""Texts of lists, allowances, stocks and dealings."""

import random
import re
import time
import unittest

from standinparts.allowances import Allowances
from standinparts.errors import BadAllowance, BadCount, BadPlace, BadText, TooMany
from standinparts.lists import PartsList
from standinparts.making import dealing, most
from standinparts.stocks import Stock
from standinparts.texts import (read_allowances, read_list, read_stock, write_allowances, write_dealing, write_list,
                                write_stock)
from tests.odd import all_odd_values
from tests.samples import some_book, some_counts, some_list

GREAT = 10 ** 30
NUMBER = "(0|[1-9][0-9]{0,30})"
FORMS = {read_list: re.compile("[^ ]+ [^ ]+ NUMBER( share NUMBER)?".replace("NUMBER", NUMBER)),
         read_allowances: re.compile("[^ ]+ for [^ ]+ since NUMBER( till NUMBER)?".replace("NUMBER", NUMBER)),
         read_stock: re.compile("[^ ]+ NUMBER".replace("NUMBER", NUMBER))}
ROWS = {read_list: ["x bolt 2 share 1", "y nut 3", "z nut 1 share 0"],
        read_allowances: ["screw for bolt since 0", "nail for screw since 5 till 7", "nail for bolt since 9999"],
        read_stock: ["bolt 3", "nut 0", "screw " + str(GREAT)]}


def first_bad(read, text):
    """The index that BadText is to tell for a text, or None."""
    rows = text.split("; ") if text else []
    if read is read_allowances and rows and rows[0] == "through":
        rows = rows[1:]
    seen = set()
    for index, row in enumerate(rows):
        if not FORMS[read].fullmatch(row) or read is read_stock and row.split(" ")[0] in seen:
            return index
        seen.add(row.split(" ")[0])
    return None


def spoilt(chance, row):
    """A row put otherwise, in one way of many."""
    words = row.split(" ")
    at = chance.randrange(len(words))
    other = list(words)
    way = chance.randrange(12)
    if way == 0:
        del other[at]
    elif way == 1:
        other.insert(at, chance.choice(["bolt", "7", "share", "for", "since", "till", "through", "", "share 1"]))
    elif way == 2:
        other[at] = chance.choice(["+" + words[at], "-" + words[at], "0" + words[at], words[at] + ";", ";",
                                   words[at].upper(), words[at] + "\n", "\t" + words[at], "", "1.0", "1_0", "\u0663",
                                   "\u00b2", "share", "for", "since", "till", "through", "None", "00", "-0"])
    elif way == 3:
        other[-1] = "1" + "0" * chance.choice([29, 30, 31, 32])
    elif way == 4:
        chance.shuffle(other)
    elif way == 5:
        return chance.choice([" " + row, row + " ", row.replace(" ", "  ", 1), row.replace(" ", "\t", 1)])
    elif way == 6:
        return chance.choice(["", " ", ";", "through", "x", row + ";" + row, row + "; ", row + " ;", "; " + row])
    elif way == 7:
        other += chance.choice(["share 1", "till 9", "share", "till", "9", "share 1 share 1"]).split(" ")
    elif way == 8:
        other = other[:at]
    elif way == 9:
        return row + " " + row
    elif way == 10:
        other[at] = other[at][::-1]
    return " ".join(other)


class WritingTest(unittest.TestCase):
    def test_lists(self):
        self.assertEqual(write_list(PartsList([('x', 'bolt', 2, 1), ('y', 'nut', 2, None)])),
                         'x bolt 2 share 1; y nut 2')
        self.assertEqual(write_list(PartsList([("x", "b", 999, None)])), "x b 999")
        self.assertEqual(write_list(PartsList([("z", "b", 2, 0), ("a", "b", 1, None)])), "z b 2 share 0; a b 1")

    def test_allowances(self):
        rows = [("screw", "bolt", 5, None), ("nail", "screw", 0, 7), ("screw", "bolt", 0, 9999)]
        text = "nail for screw since 0 till 7; screw for bolt since 0 till 9999; screw for bolt since 5"
        self.assertEqual(write_allowances(Allowances(rows)), text)
        self.assertEqual(write_allowances(Allowances(rows, through=True)), "through; " + text)
        self.assertEqual(write_allowances(Allowances()), "")
        self.assertEqual(write_allowances(Allowances(through=True)), "through")

    def test_stocks(self):
        self.assertEqual(write_stock(Stock()), "")
        self.assertEqual(write_stock(Stock({"nut": 0})), "")
        self.assertEqual(write_stock(Stock({"nut": 7, "bolt": GREAT, "ax": 0})), f"bolt {GREAT}; nut 7")

    def test_dealings(self):
        self.assertEqual(write_dealing([]), "")
        parts = PartsList([("x", "bolt", 2, 1), ("y", "nut", 1, None)])
        stock = Stock({"bolt": 3, "screw": 1, "nut": 2})
        things = dealing(parts, Allowances([("screw", "bolt", 0, None)]), 0, stock, 2)
        self.assertEqual(write_dealing(things[:1]), "x bolt screw, y nut")
        self.assertEqual(write_dealing(things), "x bolt screw, y nut; x bolt bolt, y nut")
        self.assertEqual(write_dealing(tuple(things)), write_dealing(things))

    def test_drawn_dealings(self):
        chance = random.Random(251)
        for _ in range(200):
            parts, book = some_list(chance, "abc", 3, 3), some_book(chance, "abc", 5)
            stock = Stock(some_counts(chance, "abc", 9))
            things = dealing(parts, book, 1, stock, most(parts, book, 1, stock))
            rows = [[row.split(" ") for row in text.split(", ")] for text in write_dealing(things).split("; ")]
            read = [tuple((word, tuple(units)) for word, *units in row) for row in rows] if things else []
            self.assertEqual(read, things)


class ThereAndBackTest(unittest.TestCase):
    def test_lists(self):
        chance = random.Random(252)
        for _ in range(300):
            parts = some_list(chance, ["bolt", "a", "abcdefgh"], 6, 999)
            self.assertEqual(read_list(write_list(parts)), parts)

    def test_allowances(self):
        chance = random.Random(253)
        for _ in range(300):
            book = some_book(chance, ["bolt", "a", "abcdefgh", "zz"], 12)
            self.assertEqual(read_allowances(write_allowances(book)), book)
        for through in (False, True):
            book = Allowances([("a", "b", 9999, 9999), ("a", "b", 9999, None)], through=through)
            self.assertEqual(read_allowances(write_allowances(book)), book)

    def test_stocks(self):
        chance = random.Random(254)
        for _ in range(300):
            stock = Stock(some_counts(chance, ["bolt", "a", "abcdefgh"], chance.choice([1, 9, 10 ** 9, GREAT])))
            self.assertEqual(read_stock(write_stock(stock)), stock)
        self.assertEqual(read_stock(f"bolt {GREAT}")["bolt"], GREAT)

    def test_in_any_order(self):
        self.assertEqual(read_allowances("b for a since 3; a for b since 1; a for b since 0 till 0"),
                         Allowances([("a", "b", 1, None), ("b", "a", 3, None), ("a", "b", 0, 0)]))
        self.assertEqual(read_stock("nut 0; bolt 3"), Stock({"bolt": 3}))

    def test_no_rows(self):
        self.assertEqual([read_allowances(""), read_stock("")], [Allowances(), Stock()])
        self.assertEqual(read_allowances("through"), Allowances(through=True))
        with self.assertRaises(BadPlace) as caught:
            read_list("")
        self.assertIsNone(caught.exception.index)

    def test_by_name(self):
        parts, book, stock = PartsList([("x", "b", 1, 0)]), Allowances(through=True), Stock({"b": 3})
        self.assertEqual(read_list(text=write_list(parts_list=parts)), parts)
        self.assertEqual(read_allowances(text=write_allowances(allowances=book)), book)
        self.assertEqual(read_stock(text=write_stock(stock=stock)), stock)
        self.assertEqual(write_dealing(things=[(("x", ("b",)),)]), "x b")

    def test_new_stock_each_time(self):
        stock = read_stock("bolt 3")
        stock["bolt"] = 4
        self.assertEqual(read_stock("bolt 3")["bolt"], 3)


class BadTextsTest(unittest.TestCase):
    def check(self, read, text, index):
        with self.assertRaises(BadText) as caught:
            read(text)
        self.assertEqual(caught.exception.index, index)

    def test_no_strings(self):
        for read in FORMS:
            for value in [value for value in all_odd_values() if not isinstance(value, str)] + [7, b"", ["x b 1"]]:
                self.check(read, value, 0)

    def test_forms(self):
        wrong = {read_list: ["x", "x b", "x b 1 share", "x b 1 shares 1", "x b 1 1", "x b 1 share 1 1", "x  b 1",
                             "x b  1", " x b 1", "x b 1 ", "x b +1", "x b -1", "x b 01", "x b 1.0", "x b one", "x b ",
                             "x b 1 share 01", "x b 1 share -1", "x b 1 share None", "x b 1;y b 1", "x b 1,y b 1",
                             " b 1", "x  1", " b 1 share 1", "x  1 share 1", "  1"],
                 read_allowances: ["a", "a b", "a for b", "a for b since", "a to b since 0", "a for b till 0",
                                   "a for b since 0 till", "a for b since 0 since 1", "a for b since 0 till 1 till 2",
                                   "a for b since 00", "a for b since 0 till 09", "a for b since 0 till None",
                                   "a for  b since 0", "for b since 0", "a since 0 for b", "through ", " through",
                                   "Through", "a for b since 0;", "a for b since 0;c for b since 0", " for b since 0",
                                   "a for  since 0", " for  since 0", " for b since 0 till 1", "a for  since 0 till 1"],
                 read_stock: ["a", "a  1", " a 1", "a 1 ", "a 1 1", "a +1", "a -1", "a 01", "a 00", "a one", "1",
                              "a 1;b 1", "a 1,", " ", "a ", " 1", "a 1\n", "a \u0661", "a \u00b9"]}
        for read, rows in wrong.items():
            for row in rows:
                self.check(read, row, 0)
                for good in ROWS[read]:
                    self.check(read, good + "; " + row, 1)
                    self.check(read, row + "; " + good, 0)
                    self.check(read, row + "; " + row, 0)
            self.check(read, "; ".join(ROWS[read]) + "; ", 3)
            self.check(read, "; " + ROWS[read][0], 0)

    def test_counted_behind_through(self):
        good = ROWS[read_allowances]
        self.check(read_allowances, "through; ", 0)
        self.check(read_allowances, "through; through", 0)
        self.check(read_allowances, f"through; {good[0]}; {good[1]}; a", 2)
        self.check(read_allowances, f"{good[0]}; through", 1)
        # Without a blank behind the semicolon it is the beginning of a word, which may have any signs.
        with self.assertRaises(BadAllowance):
            read_allowances("through;" + good[0])
        self.check(read_allowances, "through;" + good[0] + " share 1", 0)

    def test_a_part_twice_in_a_stock(self):
        self.check(read_stock, "a 1; a 1", 1)
        self.check(read_stock, "a 1; b 2; c 3; a 0; b 1", 3)
        self.check(read_stock, "a 0; b 0; b 0", 2)
        self.check(read_stock, "A 1; A 1", 1)
        self.check(read_stock, "a 1; a 1; b", 1)
        self.check(read_stock, "a 1; b; a 1", 1)

    def test_thirty_one_digits_and_thirty_two(self):
        longest, longer = "9" * 31, "1" + "0" * 31
        for text, error, index in [("x b " + longest, BadPlace, 0), ("x b 1 share " + longest, BadPlace, 0)]:
            with self.assertRaises(error) as caught:
                read_list(text)
            self.assertEqual(caught.exception.index, index)
        self.check(read_list, "x b " + longer, 0)
        self.check(read_list, "x b 1 share " + longer, 0)
        for text in ("a for b since " + longest, "a for b since 0 till " + longest):
            with self.assertRaises(BadAllowance) as caught:
                read_allowances(text)
            self.assertEqual(caught.exception.index, 0)
        self.check(read_allowances, "a for b since " + longer, 0)
        self.check(read_allowances, "a for b since 0 till " + longer, 0)
        with self.assertRaises(BadCount) as caught:
            read_stock("a " + longest)
        self.assertEqual(caught.exception.part, "a")
        self.check(read_stock, "a " + longer, 0)
        self.check(read_stock, "a 0" + "1" * 30, 0)

    def test_errors_of_the_classes(self):
        for text, index in [("x b 1; x b 1", 1), ("x b 0", 0), ("x b 1000", 0), ("x b 1; y b 2 share 3", 1),
                            ("X b 1", 0), ("x b\t 1", 0), ("abcdefghi b 1", 0), ("x b; 1", None)]:
            if index is None:
                self.check(read_list, text, 0)
                continue
            with self.assertRaises(BadPlace) as caught:
                read_list(text)
            self.assertEqual(caught.exception.index, index)
        for text, index in [("a for a since 0", 0), ("a for b since 0; a for b since 0", 1),
                            ("a for b since 5 till 4", 0), ("a for B since 0", 0),
                            ("through; a for b since 0; a for b since 10000", 1),
                            ("through for b since 0; through; for b since 0", None)]:
            if index is None:
                self.check(read_allowances, text, 1)
                continue
            with self.assertRaises(BadAllowance) as caught:
                read_allowances(text)
            self.assertEqual(caught.exception.index, index)
        for text, part in [("A 1", "A"), ("a;b 1", "a;b"), ("a 1; abcdefghi 0", "abcdefghi"), ("a\n 1", "a\n"),
                           (f"b {GREAT + 1}; A 1", "b"), ("; 1", None)]:
            if part is None:
                self.check(read_stock, text, 0)
                continue
            with self.assertRaises(BadCount) as caught:
                read_stock(text)
            self.assertEqual(caught.exception.part, part)

    def test_too_many(self):
        rows = [f"p{letter} b 1" for letter in "abcdefghijklm"]
        self.assertEqual(len(read_list("; ".join(rows[:12]))), 12)
        with self.assertRaises(TooMany) as caught:
            read_list("; ".join(rows))
        self.assertEqual(caught.exception.limit, 12)
        rows = [f"p{letter} for b since 0" for letter in "abcdefghijklm"]
        self.assertEqual(len(read_allowances("; ".join(["through", *rows[:12]]))), 12)
        with self.assertRaises(TooMany):
            read_allowances("; ".join(["through", *rows]))
        self.check(read_allowances, "; ".join([*rows, "a"]), 13)

    def test_bad_texts_ahead_of_the_errors_of_the_classes(self):
        self.check(read_list, "X b 1000; X b 1000; x b", 2)
        self.check(read_allowances, "a for a since 0; a for a since 0; a", 2)
        self.check(read_stock, f"A {GREAT * 9}; b 1; B", 2)

    def test_rows_put_otherwise(self):
        chance = random.Random(255)
        for read, rows in ROWS.items():
            told = []
            for _ in range(6000):
                text = "; ".join(spoilt(chance, row) if chance.random() < 0.5 else row
                                 for row in rows[:chance.randrange(1, 4)])
                if read is read_allowances and chance.random() < 0.3:
                    text = "through; " + text
                index = first_bad(read, text)
                told.append(index)
                if index is not None:
                    self.check(read, text, index)
                    continue
                try:
                    read(text)
                except (BadPlace, BadAllowance, BadCount):
                    told.append("error")
            for seen in (None, 0, 1, 2, "error"):
                self.assertGreater(told.count(seen), 40)

    def test_calls_take_no_long_time(self):
        begin = time.process_time()
        text = "; ".join(f"{one}{other}x 1{'0' * 29}" for one in "abcdefghij" for other in "abcdefghij")
        for _ in range(100):
            self.assertEqual(len(read_stock(text)), 100)
            self.assertEqual(write_stock(read_stock(text)), text)
        self.assertLess(time.process_time() - begin, 10)


if __name__ == "__main__":
    unittest.main()
