"""Points 67 to 70: small books, told back from values of their heaps."""

import itertools
import random
import time
import unittest

from takeandsplit.alike import parted
from takeandsplit.books import Book
from takeandsplit.errors import BadNumber, BadValues
from takeandsplit.looks import found_paper
from takeandsplit.toldback import book_at, book_for, count_books, narrowed, none_from, small_book
from takeandsplit.values import values
from tests.plainplay import Refusals, no_numbers
from tests.samples import odd_things

SMALL_RULES = [(0, 0, "two", 0, 1)] + [(n, n, left, 0, 1) for n in (1, 2, 3) for left in ("none", "one", "two")]
SMALL_ROWS = sorted([[rule for at, rule in enumerate(SMALL_RULES) if number >> at & 1] for number in range(1024)],
                    key=lambda row: (len(row), row))
TABLE = []


def table():
    """The values of the heaps 1 to 40 by all small books, in their order."""
    if not TABLE:
        TABLE.extend(values(Book(row), 40)[1:] for row in SMALL_ROWS)
    return TABLE


def plain_fitting(told):
    """The indexes of the small books that fit."""
    return [number for number, row in enumerate(table()) if row[:len(told)] == list(told)]


def plain_narrowed(told):
    """How many fit the first none, the first one, .. of the values."""
    sizes = [next((at for at, (mine, theirs) in enumerate(zip(row, told)) if mine != theirs), len(told)) for row in table()]
    return [sum(size >= many for size in sizes) for many in range(len(told) + 1)]


class SmallBooksTest(Refusals, unittest.TestCase):
    def test_all_in_their_order(self):
        self.assertEqual(len(SMALL_RULES), 10)
        seen = [small_book(number).rules() for number in range(1024)]
        self.assertEqual(seen, SMALL_ROWS)
        self.assertEqual(len({tuple(row) for row in seen}), 1024)

    def test_first_and_last(self):
        self.assertEqual(small_book(number=0), Book([]))
        self.assertEqual([small_book(number).rules() for number in (1, 2, 10)],
                         [[SMALL_RULES[0]], [SMALL_RULES[1]], [SMALL_RULES[9]]])
        self.assertEqual(small_book(11).rules(), SMALL_RULES[:2])
        self.assertEqual(small_book(1023).rules(), SMALL_RULES)
        self.assertEqual(small_book(1022).rules(), SMALL_RULES[1:])

    def test_refusals(self):
        for thing in no_numbers(odd_things()) + [1024, 1025, 10 ** 18, 10 ** 30]:
            self.refuses(BadNumber, {"thing": thing}, small_book, thing)


class ToldBackTest(Refusals, unittest.TestCase):
    def same(self, told):
        fitting = plain_fitting(told)
        many = plain_narrowed(told)
        self.assertEqual(count_books(told), len(fitting), told)
        self.assertEqual(narrowed(told), many)
        self.assertEqual(book_for(told), Book(SMALL_ROWS[fitting[0]]) if fitting else None)
        self.assertEqual(none_from(told), None if fitting else many.index(0))
        # Just one of both is None.
        self.assertEqual(book_for(told) is None, none_from(told) is not None)
        self.assertEqual(many, sorted(many, reverse=True))
        for at in {0, len(fitting) // 2, len(fitting) - 1} if fitting else ():
            self.assertEqual(book_at(told, at), Book(SMALL_ROWS[fitting[at]]))
        over = len(fitting)
        self.refuses(BadNumber, {"thing": over}, book_at, told, over)

    def test_examples(self):
        self.assertEqual(narrowed(values=[1, 2, 0]), [1024, 512, 192, 48])
        want = [(0, 0, "two", 0, 1), (1, 1, "none", 0, 1), (1, 1, "one", 0, 1)]
        self.assertEqual(book_for(values=[1, 2, 0]).rules(), want)
        self.assertEqual((count_books(values=[1, 2, 0]), none_from(values=[1, 2, 0])), (48, None))
        self.assertEqual(book_at(values=(1, 2, 0), number=0).rules(), want)

    def test_by_a_plain_look(self):
        rng = random.Random(461)
        for _ in range(40):
            row = table()[rng.randrange(1024)]
            told = row[:rng.choice([1, 2, 3, 5, 8, 13, 40])]
            self.same(told)
            if rng.random() < 0.7:
                at = rng.randrange(len(told))
                self.same(told[:at] + [told[at] + rng.choice([1, 2, 5]) if rng.random() < 0.7 else 0] + told[at + 1:])

    def test_all_books_in_order(self):
        """Each book is among those that have its values, at the place of its index."""
        for number in range(0, 1024, 25):
            fitting = plain_fitting(table()[number])
            self.assertEqual(book_at(table()[number], fitting.index(number)), small_book(number))

    def test_no_values_and_few(self):
        self.assertEqual((book_for([]), count_books([]), narrowed([]), none_from([])), (Book([]), 1024, [1024], None))
        for number in (0, 1, 511, 1023):
            self.assertEqual(book_at((), number), small_book(number))
        for told in itertools.chain(itertools.product(range(4), repeat=1), itertools.product(range(4), repeat=3)):
            self.same(list(told))

    def test_forty_values(self):
        for number in (0, 1, 77, 300, 512, 900, 1023):
            self.same(table()[number])
        self.same([0] * 40)
        self.same([0, 1] * 20)

    def test_none_from_some_heap_on(self):
        for number, at in itertools.product((5, 200, 1000), (0, 3, 20, 39)):
            told = list(table()[number])
            told[at] += 40
            self.assertIsNone(book_for(told))
            self.assertEqual(count_books(told), 0)
            self.assertEqual(none_from(told), at + 1)
            self.assertEqual(narrowed(told)[at + 1:], [0] * (40 - at))
            self.refuses(BadNumber, {"thing": 0}, book_at, told, 0)

    def test_great_values(self):
        for great in (10 ** 9, 10 ** 18, 10 ** 30):
            self.assertEqual(none_from([great]), 1)
            self.assertEqual(none_from([1, 2, great, 4]), 3)
            self.assertEqual(narrowed([1, great]), [1024, 512, 0])

    def test_books_that_fit_may_part_behind(self):
        found = {}
        for told in ([1, 2, 0], [1, 0, 1, 0], [0, 0, 1]):
            books = [book_at(told, number) for number in range(0, count_books(told), 3)]
            papers = [found_paper(book, 120) for book in books]
            pairs = [pair for pair in zip(books, papers) if pair[1] is not None][:12]
            for one, other in itertools.combinations(pairs, 2):
                part = parted(*one, *other)
                found[part is None] = True
                self.assertTrue(part is None or part[0] > len(told))
        self.assertEqual(len(found), 2)

    def test_more_than_forty(self):
        self.assertEqual(count_books([0] * 90), 1)
        self.assertGreater(count_books(values(small_book(1000), 90)[1:]), 0)

    def test_refusals_in_their_order(self):
        for work in (book_for, count_books, narrowed, none_from, lambda told: book_at(told, None)):
            for thing in odd_things():
                if not isinstance(thing, (list, tuple)):
                    self.refuses(BadValues, {"index": 0}, work, thing)
            for thing in no_numbers(odd_things()):
                for at in (0, 1, 39):
                    self.refuses(BadValues, {"index": at}, work, [1] * at + [thing] + [None] * 3)
                self.refuses(BadValues, {"index": 2}, work, (9, 9, thing))
        for thing in no_numbers(odd_things()) + [48, 49, 10 ** 18]:
            self.refuses(BadNumber, {"thing": thing}, book_at, [1, 2, 0], thing)

    def test_told_and_passed_ones(self):
        told = [1, 2, 0]
        narrowed(told).clear()
        self.assertEqual((told, narrowed(told)), ([1, 2, 0], [1024, 512, 192, 48]))

    def test_in_time(self):
        began = time.monotonic()
        for number in range(0, 1024, 16):
            told = table()[number]
            for work in (book_for, count_books, narrowed, none_from):
                work(told)
        self.assertLess(time.monotonic() - began, 20)


if __name__ == "__main__":
    unittest.main()
