"""Safety: units that still fit where they were dealt, however long they wait."""

import random
import time
import unittest

from standinparts.allowances import Allowances
from standinparts.errors import BadWait
from standinparts.safety import is_safe, safe_parts, safe_spans
from tests import brute
from tests.odd import odd_values
from tests.samples import put_off, renamed_book, some_book

EMPTY = Allowances()
BOOK = Allowances([("a", "b", 0, 10)])


def late_book(chance, parts):
    """A book with dates near the beginning and near the last date."""
    rows = []
    for _ in range(chance.randrange(8)):
        part, plain = chance.sample(parts, 2)
        since, till = sorted(chance.choice([0, 1, 2, 5, 6, 9, 9990, 9995, 9998, 9999]) for _ in range(2))
        row = (part, plain, since, chance.choice([None, till, till]))
        if row not in rows:
            rows.append(row)
    return Allowances(rows, through=chance.random() < 0.5)


def fitting_days(book, plain):
    """For each part the list that tells for each date whether it is a candidate, looked up between changes."""
    begins = brute.dates(book) + [10000]
    found = {part: [] for part in "abcd"}
    for since, end in zip(begins, begins[1:]):
        fits = brute.candidates(book, plain, since)
        for part in found:
            found[part] += [part in fits] * (end - since)
    return found


class ErrorsTest(unittest.TestCase):
    def calls(self, wait):
        """The three calls with a wait."""
        return [(is_safe, {"part": "a", "plain": "b", "date": 0, "wait": wait}),
                (safe_parts, {"plain": "b", "date": 0, "wait": wait}),
                (safe_spans, {"part": "a", "plain": "b", "wait": wait})]

    def test_bad_waits(self):
        for value in odd_values() + [-1, 10000, 10 ** 30, "3", "a", (), (1,), [], [1], {}, {1: 1}, (0, 7)]:
            for call, given in self.calls(value):
                for book in (EMPTY, BOOK):
                    with self.assertRaises(BadWait) as caught:
                        call(book, **given)
                    self.assertIs(caught.exception.wait, value)

    def test_bad_waits_ahead_of_bad_dates(self):
        for call, more in [(is_safe, ("a", "b", None, None)), (safe_parts, ("b", 10000, None))]:
            with self.assertRaises(BadWait):
                call(BOOK, *more)

    def test_least_and_greatest_wait(self):
        for wait, truth in [(0, True), (10, True), (11, False), (9999, False)]:
            self.assertIs(is_safe(BOOK, "a", "b", 0, wait), truth)
        for call, given in self.calls(9999):
            call(BOOK, **given)

    def test_by_name(self):
        self.assertIs(is_safe(wait=3, date=7, plain="b", part="a", allowances=BOOK), True)
        self.assertEqual(safe_parts(wait=4, date=7, plain="b", allowances=BOOK), ("b",))
        self.assertEqual(safe_spans(wait=3, plain="b", part="a", allowances=BOOK), [(0, 7)])

    def test_new_lists(self):
        for _ in range(2):
            spans = safe_spans(BOOK, "a", "b", 0)
            self.assertEqual(spans, [(0, 10)])
            spans.append(None)
        self.assertEqual(BOOK.rows(), [("a", "b", 0, 10)])


class SafetyTest(unittest.TestCase):
    def test_example(self):
        self.assertEqual(safe_spans(Allowances([('a', 'b', 0, 10)]), 'a', 'b', 3), [(0, 7)])

    def test_is_safe(self):
        for date, wait, truth in [(7, 3, True), (8, 3, False), (10, 0, True), (11, 0, False), (0, 0, True),
                                  (10, 1, False), (9999, 9999, False)]:
            self.assertIs(is_safe(BOOK, "a", "b", date, wait), truth)
            self.assertEqual(safe_parts(BOOK, "b", date, wait), ("b", "a") if truth else ("b",))
            self.assertIs(is_safe(BOOK, "b", "b", date, wait), True)
            self.assertIs(is_safe(BOOK, "b", "a", date, wait), False)
            self.assertIs(is_safe(BOOK, "c", "b", date, wait), False)

    def test_without_allowances(self):
        self.assertIs(is_safe(EMPTY, "a", "a", 9999, 9999), True)
        self.assertIs(is_safe(EMPTY, "a", "b", 0, 0), False)
        self.assertEqual(safe_parts(EMPTY, "a", 0, 9999), ("a",))
        self.assertEqual([safe_spans(EMPTY, "a", "a", 9999), safe_spans(EMPTY, "a", "b", 0)], [[(0, None)], []])

    def test_a_hole_in_between(self):
        book = Allowances([("a", "b", 0, 4), ("a", "b", 6, 9), ("a", "b", 9, 12)])
        self.assertEqual([is_safe(book, "a", "b", date, 2) for date in (2, 3, 4, 5, 6, 10, 11)],
                         [True, False, False, False, True, True, False])
        self.assertEqual(safe_spans(book, "a", "b", 0), [(0, 4), (6, 12)])
        self.assertEqual(safe_spans(book, "a", "b", 4), [(0, 0), (6, 8)])
        self.assertEqual(safe_spans(book, "a", "b", 5), [(6, 7)])
        self.assertEqual([safe_spans(book, "a", "b", 6), safe_spans(book, "a", "b", 7)], [[(6, 6)], []])

    def test_spans_that_join(self):
        book = Allowances([("a", "b", 0, 4), ("a", "b", 5, 9), ("c", "b", 2, 3)])
        self.assertEqual(safe_spans(book, "a", "b", 3), [(0, 6)])
        book = Allowances([("a", "b", 0, 4), ("a", "c", 5, 9), ("c", "b", 0, None)], through=True)
        self.assertEqual(safe_spans(book, "a", "b", 0), [(0, 9)])

    def test_no_end(self):
        for till in (None, 9999):
            book = Allowances([("a", "b", 7, till)])
            for wait in (0, 5, 9999):
                self.assertEqual(safe_spans(book, "a", "b", wait), [(7, None)])
                self.assertIs(is_safe(book, "a", "b", 7, wait), True)
                self.assertIs(is_safe(book, "a", "b", 9999, wait), True)
                self.assertIs(is_safe(book, "a", "b", 6, wait), False)
        book = Allowances([("a", "b", 7, 9998)])
        self.assertEqual(safe_spans(book, "a", "b", 0), [(7, 9998)])
        self.assertEqual(safe_spans(book, "a", "b", 9991), [(7, 7)])
        self.assertEqual(safe_spans(book, "a", "b", 9992), [])
        self.assertEqual(safe_spans(Allowances([("a", "b", 9999, 9999)]), "a", "b", 9999), [(9999, None)])

    def test_plain_first(self):
        book = Allowances([("a", "m", 0, None), ("z", "m", 0, 5), ("c", "m", 0, None)])
        self.assertEqual(safe_parts(book, "m", 0, 5), ("m", "a", "c", "z"))
        self.assertEqual(safe_parts(book, "m", 0, 6), ("m", "a", "c"))

    def test_against_all_dates(self):
        chance = random.Random(231)
        seen = []
        for k in range(60):
            book = late_book(chance, "abcd") if k % 2 else some_book(chance, "abcd", 8)
            wait, plain = chance.choice([0, 1, 2, 3, 5, 9, 9989, 9999]), chance.choice("abcd")
            days = fitting_days(book, plain)
            for part in "abcd":
                # How long, from a date on, the part fits; behind the last date it does for ever.
                lengths, length = [], 20000
                for fits in reversed(days[part]):
                    length = length + 1 if fits else 0
                    lengths.insert(0, length)
                safe = [length > wait for length in lengths]
                spans = []
                for date in [date for date in range(10000) if safe[date] and not (date > 0 and safe[date - 1])]:
                    end = date
                    while end < 10000 and safe[end]:
                        end += 1
                    spans.append((date, None if end == 10000 else end - 1))
                self.assertEqual(safe_spans(book, part, plain, wait), spans)
                seen.append((len(spans), spans[-1][1] is None if spans else None))
                for date in [*range(12), *range(9985, 10000)]:
                    self.assertIs(is_safe(book, part, plain, date, wait), safe[date])
                    self.assertIs(part in safe_parts(book, plain, date, wait), safe[date])
        self.assertTrue({(0, None), (1, True), (1, False), (2, True), (2, False)} <= set(seen))

    def test_candidates_in_their_order(self):
        chance = random.Random(232)
        for _ in range(300):
            book, wait, date = some_book(chance, "abcd", 8), chance.randrange(4), chance.randrange(8)
            told = tuple(part for part in book("b", date) if is_safe(book, part, "b", date, wait))
            self.assertEqual(safe_parts(book, "b", date, wait), told)
            self.assertEqual(told[0], "b")

    def test_names_and_dates(self):
        chance = random.Random(233)
        names = {"a": "bolt", "b": "nail", "c": "nut"}
        for _ in range(300):
            book, wait, days = put_off(some_book(chance, "abc", 6), 1), chance.randrange(5), chance.choice([3, 9000])
            spans = safe_spans(book, "a", "b", wait)
            self.assertEqual(safe_spans(renamed_book(book, names), "bolt", "nail", wait), spans)
            self.assertEqual(safe_spans(put_off(book, days), "a", "b", wait),
                             [(since + days, None if till is None else till + days) for since, till in spans])
            self.assertEqual(safe_parts(put_off(book, days), "b", 2 + days, wait), safe_parts(book, "b", 2, wait))
            self.assertEqual(safe_parts(renamed_book(book, names), "nail", 2, wait),
                             tuple(names[part] for part in safe_parts(book, "b", 2, wait)))

    def test_calls_take_no_long_time(self):
        begin = time.process_time()
        letters = "abcdefghijklm"
        book = Allowances([(letters[k + 1], letters[k], 700 * k, 700 * k + 2000) for k in range(12)], through=True)
        for wait in (0, 500, 9999):
            for _ in range(50):
                safe_spans(book, "d", "a", wait)
                safe_parts(book, "a", 2500, wait)
                is_safe(book, "d", "a", 2500, wait)
        self.assertLess(time.process_time() - begin, 10)


if __name__ == "__main__":
    unittest.main()
