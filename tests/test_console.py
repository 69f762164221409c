"""The console, held against a store that is told the same."""

import random
import time
import unittest

from standinparts.allowances import Allowances
from standinparts.console import Console
from standinparts.errors import (BadAllowance, BadCount, BadDate, BadLine, BadMany, BadNumber, BadPart, Lacking,
                                 NothingToUndo, PartsError, TooMany)
from standinparts.lists import PartsList
from standinparts.needs import uses
from standinparts.stocks import Stock
from standinparts.store import Store
from standinparts.texts import write_allowances, write_dealing, write_list, write_stock
from tests.odd import all_odd_values
from tests.samples import some_book, some_list, wide_book

EMPTY = Allowances()
GREAT = 10 ** 30
PARTS = PartsList([("x", "bolt", 2, 1), ("y", "nut", 1, None)])
SCREWS = Allowances([("screw", "bolt", 0, None)])
FILLING = ["come bolt 9", "come nut 5", "come screw 3", "make 0 2", "come nut 1"]


def told(rows, parts=PARTS, book=SCREWS):
    """A console that was told some rows."""
    console = Console(parts, book)
    for row in rows:
        console.say(row)
    return console


def shown(console):
    """All that a console tells of itself, and behind each step taken back; it is unwound by this."""
    found = []
    while True:
        rows = ["stock", "list", "allowances", "made", "most 0", "most 5", "uses 0 1"]
        found.append([console.say(row) for row in rows])
        try:
            console.say("undo")
        except NothingToUndo:
            return found


def done(call, *given):
    """What a call answers, or its error with what it holds."""
    try:
        return call(*given)
    except (PartsError, TooMany, NothingToUndo) as error:
        return type(error).__name__, vars(error)


class Twin:
    """A store that is told the same as a console, with the answers as the document tells them."""

    def __init__(self, parts_list, allowances):
        self.parts_list, self.book = parts_list, [allowances]
        self.store = Store(parts_list, allowances, Stock())

    def do(self, row):
        """The answer to a row that is a step."""
        word, *rest = row.split(" ")
        if word == "come":
            self.store.come(rest[0], int(rest[1]))
        if word == "allow":
            allowance = (rest[0], rest[2], int(rest[4]), int(rest[6]) if rest[5:] else None)
            self.store.allow(allowance)
            self.book.append(self.book[-1] + allowance)
            return "ok"
        if word == "make":
            things = self.store.make(int(rest[0]), int(rest[1]))
            self.book.append(self.book[-1])
            return write_dealing(things)
        self.book.append(self.book[-1])
        return "ok"

    def say(self, row):
        """The answer to a row."""
        word, *rest = row.split(" ")
        if word == "try":
            books = list(self.book)
            try:
                with self.store.trying():
                    return self.do(row[4:])
            finally:
                self.book = books
        if word in ("come", "allow", "make"):
            return self.do(row)
        if word == "undo":
            self.store.undo()
            self.book.pop()
            return "ok"
        if word == "uses":
            found = uses(self.parts_list, self.book[-1], int(rest[0]), self.store.held(), int(rest[1]))
            rows = None if found is None else [f"{part} {least} {most}" for part, (least, most) in found.items()]
            return "none" if rows is None else "; ".join(rows)
        return {"made": lambda: str(self.store.made), "most": lambda: str(self.store.most(int(rest[0]))),
                "stock": lambda: write_stock(self.store.held()), "list": lambda: write_list(self.parts_list),
                "allowances": lambda: write_allowances(self.book[-1])}[word]()


class ErrorsTest(unittest.TestCase):
    def unchanged(self, error, name, value, row):
        """That a row raises an error, and nothing has changed."""
        console = told(FILLING)
        with self.assertRaises(error) as caught:
            console.say(row)
        self.assertEqual(getattr(caught.exception, name), value)
        self.assertEqual(shown(console), shown(told(FILLING)))

    def test_making_a_console(self):
        for value in all_odd_values():
            for given, name in [((value, value), "list"), ((value, EMPTY), "list"), ((PARTS, value), "allowances")]:
                with self.assertRaises(BadPart) as caught:
                    Console(*given)
                self.assertEqual(caught.exception.part, name)

    def test_values_that_are_no_text(self):
        for value in [value for value in all_odd_values() if not isinstance(value, str)] + [3, ["undo"], b"undo"]:
            console = told(FILLING)
            with self.assertRaises(BadLine) as caught:
                console.say(value)
            self.assertIs(caught.exception.line, value)
            self.assertEqual(shown(console), shown(told(FILLING)))

    def test_rows_that_are_nearly_right(self):
        wrong = ["", " ", "come", "come bolt", "come 3", "come bolt +3", "come bolt -3", "come bolt 03", "come bolt 3 ",
                 "come  bolt 3", " come bolt 3", "come bolt  3", "come bolt 3 3", "come bolt three", "come bolt 1.0",
                 "come bolt " + "1" * 32, "come  3", "Come bolt 3", "COME bolt 3", "come bolt 3\n", "come\tbolt 3",
                 "allow", "allow a", "allow a for b", "allow a for b since", "allow a for b since 00",
                 "allow a for b since 0 till", "allow a for b since 0 till 01", "allow  a for b since 0",
                 "allow a for b since 0 ", "allow a for b since -1", "allow a of b since 0", "allow through",
                 "allow a for b since 0; c for b since 0", "allow a for b since 0 till 1 till 2",
                 "Allow a for b since 0", "allow a for b till 1 since 0",
                 "make", "make 0", "make 0 1 1", "make 0  1", "make 00 1", "make 0 01", "make 0 +1", "make 0 -1",
                 "make -1 1", "make " + "1" * 32 + " 1", "make 0 " + "1" * 32, "make 0 one", "Make 0 1", "make 0 1 ",
                 "most", "most ", "most 00", "most -1", "most 0 0", "most  0", "Most 0", "most 0 ", "most zero",
                 "uses", "uses 0", "uses 0 1 1", "uses 0 01", "uses  0 1", "Uses 0 1", "uses 0 1 ", "uses -0 1",
                 "try", "try ", "try undo", "try stock", "try list", "try allowances", "try made", "try most 0",
                 "try uses 0 1", "try  come bolt 3", "try come bolt", "try try come bolt 3", "try allow", "try make 0",
                 "Try come bolt 3", "trycome bolt 3", "try come bolt 3 ", "undo ", " undo", "Undo", "undo 1", "UNDO",
                 "stock ", "stock bolt", "Stock", "list 0", "List", "allowances 0", "made 0", "made ", "Made", "ok",
                 "none", "held", "put", "undo;", "undo; undo", "stock; list", "come bolt 3; come bolt 3"]
        for row in wrong:
            self.unchanged(BadLine, "line", row, row)

    def test_errors_of_the_calls(self):
        for row, error, name, value in [
                ("come Bolt 1", BadPart, "part", "Bolt"), ("come abcdefghi 1", BadPart, "part", "abcdefghi"),
                ("come a;b 1", BadPart, "part", "a;b"), ("come 1 1", BadPart, "part", "1"),
                ("come a\nb 1", BadPart, "part", "a\nb"),
                (f"come bolt {GREAT}", BadCount, "part", "bolt"), ("come B " + "9" * 31, BadPart, "part", "B"),
                (f"come axe {GREAT + 1}", BadCount, "part", "axe"),
                ("allow a for a since 0", BadAllowance, "index", 1),
                ("allow A for b since 0", BadAllowance, "index", 1),
                ("allow a for b since 5 till 4", BadAllowance, "index", 1),
                ("allow a for b since 10000", BadAllowance, "index", 1),
                ("allow screw for bolt since 0", BadAllowance, "index", 1),
                ("allow through for through since 1", BadAllowance, "index", 1),
                ("make 10000 1", BadDate, "date", 10000), ("make 10000 " + "9" * 31, BadDate, "date", 10000),
                ("make 0 " + "9" * 31, BadMany, "many", int("9" * 31)), ("make 0 5", Lacking, "few", ("nut",)),
                (f"make 0 {GREAT}", Lacking, "few", ("bolt",)), ("most 10000", BadDate, "date", 10000),
                ("most " + "9" * 31, BadDate, "date", int("9" * 31)), ("uses 10000 1", BadDate, "date", 10000),
                ("uses 0 " + "9" * 31, BadNumber, "number", int("9" * 31)),
                ("uses 10000 " + "9" * 31, BadNumber, "number", int("9" * 31))]:
            self.unchanged(error, name, value, row)
            if row.split(" ")[0] in ("come", "allow", "make"):
                self.unchanged(error, name, value, "try " + row)

    def test_nothing_to_undo(self):
        console = Console(PARTS, EMPTY)
        console.say("try come bolt 3")
        with self.assertRaises(NothingToUndo) as caught:
            console.say("undo")
        self.assertIsNone(caught.exception.index)
        with self.assertRaises(BadLine):
            console.say("try undo")

    def test_too_many(self):
        console = Console(PartsList([("x", "a", 1, None)]), wide_book(12))
        for row, limit in [("allow a for b since 0", 12), ("most 0", 10), ("make 0 1", 10), ("try make 0 0", 10)]:
            with self.assertRaises(TooMany) as caught:
                console.say(row)
            self.assertEqual(caught.exception.limit, limit)
        self.assertEqual(console.say("uses 0 1"), "none")
        console = told(["come bolt 500", "come nut 500"])
        with self.assertRaises(TooMany) as caught:
            console.say("make 0 67")
        self.assertEqual(caught.exception.limit, 200)

    def test_by_name(self):
        console = Console(allowances=SCREWS, parts_list=PARTS)
        self.assertEqual(console.say(row="come bolt 3"), "ok")


class AnswersTest(unittest.TestCase):
    def test_ordinary(self):
        console = Console(PARTS, EMPTY)
        for row, answer in [
                ("stock", ""), ("list", "x bolt 2 share 1; y nut 1"), ("allowances", ""), ("made", "0"),
                ("most 0", "0"),
                ("make 0 0", ""), ("come bolt 3", "ok"), ("come nut 2", "ok"), ("come screw 1", "ok"),
                ("stock", "bolt 3; nut 2; screw 1"), ("most 0", "1"), ("uses 0 2", "none"),
                ("uses 0 1", "bolt 2 2; nut 1 1"), ("allow screw for bolt since 5 till 7", "ok"),
                ("allowances", "screw for bolt since 5 till 7"), ("most 4", "1"), ("most 5", "2"), ("most 8", "1"),
                ("uses 5 2", "bolt 3 3; nut 2 2; screw 1 1"), ("uses 5 1", "bolt 1 2; nut 1 1; screw 0 1"),
                ("uses 5 0", "bolt 0 0; nut 0 0; screw 0 0"), ("uses 5 3", "none"),
                ("try make 5 2", "x bolt screw, y nut; x bolt bolt, y nut"), ("made", "0"),
                ("make 5 2", "x bolt screw, y nut; x bolt bolt, y nut"), ("made", "2"), ("stock", ""),
                ("undo", "ok"), ("made", "0"), ("stock", "bolt 3; nut 2; screw 1"), ("try come nut 5", "ok"),
                ("stock", "bolt 3; nut 2; screw 1"), ("try allow nail for nut since 0", "ok"),
                ("allowances", "screw for bolt since 5 till 7"), ("undo", "ok"), ("allowances", ""), ("most 5", "1"),
                ("come bolt 0", "ok"), ("undo", "ok"), ("stock", "bolt 3; nut 2; screw 1")]:
            self.assertEqual(console.say(row), answer, row)

    def test_great_numbers(self):
        console = Console(PartsList([("x", "bolt", 1, None)]), EMPTY)
        self.assertEqual(console.say(f"come bolt {GREAT}"), "ok")
        self.assertEqual([console.say("stock"), console.say("most 9999")], [f"bolt {GREAT}", str(GREAT)])
        self.assertEqual(console.say(f"uses 9999 {GREAT}"), f"bolt {GREAT} {GREAT}")

    def test_through(self):
        console = Console(PARTS, Allowances(through=True))
        self.assertEqual(console.say("allowances"), "through")
        for row in ["allow pin for screw since 3", "allow screw for bolt since 3", "come pin 1", "come bolt 1",
                    "come nut 1"]:
            self.assertEqual(console.say(row), "ok")
        self.assertEqual(console.say("allowances"), "through; pin for screw since 3; screw for bolt since 3")
        self.assertEqual([console.say("most 2"), console.say("most 3")], ["0", "1"])
        self.assertEqual(console.say("make 3 1"), "x bolt pin, y nut")

    def test_trying_takes_no_steps_back(self):
        console = told(FILLING)
        for row in ["try come bolt 5", "try make 0 1", "try allow nail for nut since 0", "try make 0 0"]:
            console.say(row)
        with self.assertRaises(Lacking):
            console.say("try make 0 9")
        self.assertEqual(shown(console), shown(told(FILLING)))

    def test_consoles_by_themselves(self):
        one, other = Console(PARTS, SCREWS), Console(PARTS, SCREWS)
        one.say("come bolt 3")
        one.say("allow nail for nut since 0")
        self.assertEqual([other.say("stock"), other.say("allowances")], ["", "screw for bolt since 0"])

    def test_against_a_store(self):
        chance = random.Random(281)
        seen = {}
        for _ in range(150):
            parts, book = some_list(chance, "abc", 2, 2), some_book(chance, "abc", 3)
            console, twin = Console(parts, book), Twin(parts, book)
            for _ in range(40):
                row = self.some_row(chance)
                answer = done(console.say, row)
                self.assertEqual(answer, done(twin.say, row))
                kind = "error" if isinstance(answer, tuple) else "none" if answer == "none" else "text"
                key = (" ".join(row.split(" ")[:2 if row.startswith("try") else 1]), kind)
                seen[key] = seen.get(key, 0) + 1
                if chance.random() < 0.3:
                    for asked in ("stock", "allowances", "made", "list", "most 2"):
                        self.assertEqual(console.say(asked), twin.say(asked))
            while len(twin.store) > 0:
                self.assertEqual(console.say("undo"), twin.say("undo"))
                for asked in ("stock", "allowances", "made", "most 2"):
                    self.assertEqual(console.say(asked), twin.say(asked))
        for word in ("come", "allow", "make", "try come", "try allow", "try make", "undo"):
            self.assertGreater(seen[(word, "text")], 20)
            if word not in ("come", "try come"):
                self.assertGreater(seen[(word, "error")], 10)
        self.assertGreater(seen[("uses", "text")], 100)
        self.assertGreater(seen[("uses", "none")], 100)

    def some_row(self, chance):
        """A row of any kind."""
        since = chance.randrange(4)
        steps = [f"come {chance.choice('abcd')} {chance.choice([0, 1, 3, 7])}",
                 f"allow {chance.choice('abc')} for {chance.choice('abc')} since {since}" + chance.choice(
                     ["", f" till {max(since + chance.randrange(-1, 4), 0)}"]),
                 f"make {chance.randrange(5)} {chance.choice([0, 1, 1, 2, 5])}"]
        rows = [f"most {chance.randrange(6)}", f"uses {chance.randrange(6)} {chance.randrange(4)}", "undo", "stock",
                "list", "allowances", "made"]
        return chance.choice([chance.choice(steps), "try " + chance.choice(steps), chance.choice(rows)])

    def test_alike_consoles_answer_alike(self):
        chance = random.Random(282)
        for _ in range(50):
            rows = [self.some_row(chance) for _ in range(20)]
            one, other = Console(PARTS, SCREWS), Console(PARTS, SCREWS)
            self.assertEqual([done(one.say, row) for row in rows], [done(other.say, row) for row in rows])

    def test_calls_take_no_long_time(self):
        begin = time.process_time()
        console = Console(PARTS, SCREWS)
        for k in range(500):
            for row in ("come bolt 7", "come nut 3", "try make 0 2", "make 0 1", "most 0", "uses 0 2", "stock"):
                console.say(row)
        self.assertEqual(console.say("made"), "500")
        self.assertLess(time.process_time() - begin, 10)


if __name__ == "__main__":
    unittest.main()
