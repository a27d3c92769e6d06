"""Points 15, 16, 19 and 24: options listed, shown, counted and told by number."""

import unittest

from takeandsplit.books import Book
from takeandsplit.errors import BadBook, BadHeap, BadNumber, BadOption
from takeandsplit.options import count_options, is_option, option_at, option_number, options, ways_to
from tests.samples import EMPTY, MOST_HEAP, N, P, Q, R, many_rules, odd_things, plain_options

GREAT = [MOST_HEAP, MOST_HEAP - 1, MOST_HEAP - 2, MOST_HEAP - 5, 10 ** 17 + 1, 123456789012345678]
ALL = [options, count_options]


def call_with(work, book, heap, last):
    """Calls one of the functions, its third argument being any."""
    return work(book, heap) if work in ALL else work(book, heap, last)


class SmallHeapsTest(unittest.TestCase):
    def test_against_a_plain_listing(self):
        for rules in many_rules(80, 4):
            book = Book(rules)
            for heap in list(range(1, 20)) + [31, 60]:
                want = plain_options(rules, heap)
                self.assertEqual(options(book, heap), want, (rules, heap))
                self.assertEqual(count_options(book, heap), len(want))
                for number, option in enumerate(want):
                    self.assertEqual(option_at(book, heap, number), option)
                    self.assertEqual(option_number(book, heap, option), number)
                    self.assertEqual(option_number(book, heap, tuple(reversed(option))), number)

    def test_is_option_against_a_plain_listing(self):
        for rules in many_rules(25, 5):
            book = Book(rules)
            for heap in range(1, 11):
                want = plain_options(rules, heap)
                things = [[]] + [[a] for a in range(13)] + [[a, b] for a in range(13) for b in range(13)]
                for thing in things:
                    good = sorted(thing) in want
                    self.assertIs(is_option(book, heap, thing), good)
                    self.assertIs(is_option(book, heap, tuple(thing)), good)

    def test_ways_against_a_plain_listing(self):
        for rules in many_rules(40, 6):
            book = Book(rules)
            for heap in range(1, 13):
                for option in plain_options(rules, heap):
                    want = [(rule, heap - sum(option)) for rule in book.rules()
                            if option in plain_options([rule], heap)]
                    self.assertEqual(ways_to(book, heap, option), want)
                    self.assertEqual(ways_to(book, heap, option[::-1]), want)

    def test_two_hundred(self):
        for book in (P, Q, R, N):
            self.assertEqual(options(book, 200), plain_options(book.rules(), 200))

    def test_numbers_far_beyond_a_heap(self):
        book = Book([(1, 10 ** 9, "one", 0, 1), (0, 10 ** 9, "two", 0, 1), (1, 10 ** 9, "none", 1, 2)])
        self.assertEqual(options(book, 5), plain_options([(1, 9, "one", 0, 1), (0, 9, "two", 0, 1), (1, 9, "none", 1, 2)], 5))
        self.assertEqual(options(Book([(7, 9, "one", 0, 1), (7, 7, "none", 0, 1), (7, 9, "two", 0, 1)]), 6), [])

    def test_examples(self):
        self.assertEqual(options(P, 4), [[1, 3], [2], [2, 2], [3]])
        self.assertEqual(ways_to(P, 4, [2]), [((1, 2, "one", 0, 1), 2)])
        self.assertEqual(options(EMPTY, 5), [])
        self.assertEqual(options(Q, 1), [[]])
        self.assertEqual(options(Q, 2), [])
        self.assertEqual(ways_to(N, 4, (3,)), [((1, 2, "one", 0, 1), 1)])
        self.assertEqual(ways_to(N, 2, []), [((1, 2, "none", 0, 1), 2)])


class GreatHeapsTest(unittest.TestCase):
    def test_examples(self):
        self.assertEqual(count_options(P, MOST_HEAP), 5 * 10 ** 17 + 2)
        self.assertEqual(option_at(P, MOST_HEAP, 0), [1, MOST_HEAP - 1])

    def test_numbers_and_back(self):
        books = [P, Q, R, N] + [Book(rules) for rules in many_rules(40, 7)]
        for book in books:
            for heap in GREAT:
                many = count_options(book, heap)
                tried = {number for base in (0, many // 7, many // 3, many // 2, many - 3, many)
                         for number in range(base - 3, base + 4) if 0 <= number < many}
                last = None
                for number in sorted(tried):
                    option = option_at(book, heap, number)
                    self.assertTrue(is_option(book, heap, option))
                    self.assertEqual(option, sorted(option))
                    self.assertEqual(option_number(book, heap, option), number)
                    if last is not None and number - 1 in tried:
                        self.assertLess(last, option)
                    last = option

    def test_counts(self):
        heap = MOST_HEAP
        book = Book([(0, 2, "two", 0, 1), (1, 1, "two", 0, 2), (1, 3, "one", 0, 1)])
        self.assertEqual(count_options(book, heap), heap // 2 + (heap - 1) // 2 + (heap - 2) // 2 + 3)
        self.assertEqual(count_options(Book([(2, None, "one", 0, 1), (5, None, "none", 0, 1)]), heap), heap - 2 + 1)
        self.assertEqual(count_options(EMPTY, heap), 0)
        self.assertEqual(option_at(book, heap, heap // 2 + (heap - 1) // 2 + (heap - 2) // 2 + 2), [heap - 1])
        self.assertEqual(option_at(Q, heap, heap - 3), [heap - 2])

    def test_shown(self):
        self.assertTrue(is_option(P, MOST_HEAP, [MOST_HEAP - 7, 7]))
        self.assertFalse(is_option(P, MOST_HEAP - 1, [MOST_HEAP - 8, 7]))
        self.assertFalse(is_option(P, MOST_HEAP, [MOST_HEAP - 7, 8]))
        self.assertEqual(ways_to(P, MOST_HEAP, [MOST_HEAP - 7, 7]), [((0, 0, "two", 1, 3), 0)])
        self.assertEqual(ways_to(Q, MOST_HEAP, [1]), [((2, None, "one", 0, 1), MOST_HEAP - 1)])


class RefusalsTest(unittest.TestCase):
    def test_books_and_heaps(self):
        for work in (options, count_options, is_option, ways_to, option_at, option_number):
            for thing in odd_things():
                if not isinstance(thing, Book):
                    for heap in (4, 0, None):
                        with self.assertRaises(BadBook) as caught:
                            call_with(work, thing, heap, None)
                        self.assertIs(caught.exception.thing, thing)
                if type(thing) is not int or not 1 <= thing <= MOST_HEAP:
                    for last in ([2], None, 0):
                        with self.assertRaises(BadHeap) as caught:
                            call_with(work, P, thing, last)
                        self.assertIs(caught.exception.thing, thing)

    def test_no_option(self):
        things = odd_things() + [[2, 3], [1, 3, 0], [4], [0, 4], [True, 3], ["1", 3], [[1], 3], [None, None], {1: 3}]
        for thing in things:
            good = isinstance(thing, (list, tuple)) and sorted(map(repr, thing)) in (["1", "3"], ["2"], ["2", "2"], ["3"])
            self.assertIs(is_option(P, 4, thing), good)
            if not good:
                for work in (ways_to, option_number):
                    with self.assertRaises(BadOption) as caught:
                        work(P, 4, thing)
                    self.assertIs(caught.exception.thing, thing)

    def test_no_number(self):
        for thing in odd_things() + [4, 5, 10 ** 40]:
            if type(thing) is int and 0 <= thing < 4:
                continue
            with self.assertRaises(BadNumber) as caught:
                option_at(P, 4, thing)
            self.assertIs(caught.exception.thing, thing)
        with self.assertRaises(BadNumber):
            option_at(EMPTY, 3, 0)
        with self.assertRaises(BadNumber):
            option_at(P, MOST_HEAP, count_options(P, MOST_HEAP))

    def test_told_lists_are_new(self):
        told = options(P, 4)
        told[0].append(9)
        told.pop()
        self.assertEqual(options(P, 4), [[1, 3], [2], [2, 2], [3]])
        option_at(P, 4, 1).append(7)
        self.assertEqual(option_at(P, 4, 1), [2])
        ways = ways_to(P, 4, [2])
        self.assertEqual([type(ways), type(ways[0]), type(ways[0][0])], [list, tuple, tuple])
        ways.clear()
        self.assertEqual(len(ways_to(P, 4, [2])), 1)

    def test_passed_lists_are_not_changed(self):
        option = [3, 1]
        option_number(P, 4, option)
        ways_to(P, 4, option)
        is_option(P, 4, option)
        self.assertEqual(option, [3, 1])

    def test_by_name(self):
        self.assertEqual(options(book=P, heap=4), options(P, 4))
        self.assertTrue(is_option(book=P, heap=4, thing=[2]))
        self.assertEqual(len(ways_to(book=P, heap=4, option=[2])), 1)
        self.assertEqual(count_options(book=P, heap=4), 4)
        self.assertEqual(option_at(book=P, heap=4, number=1), [2])
        self.assertEqual(option_number(book=P, heap=4, option=[2]), 1)


if __name__ == "__main__":
    unittest.main()
