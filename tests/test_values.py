"""Points 17, 18, 20, 21 and 24: values, their faults, options told back, worth."""

import unittest

from takeandsplit.back import ends, heaps_from
from takeandsplit.books import Book
from takeandsplit.errors import BadBook, BadHouse, BadNumber, BadOption, BadPosition
from takeandsplit.houses import House
from takeandsplit.options import is_option
from takeandsplit.sums import worth
from takeandsplit.values import values, values_fault
from tests.samples import (EMPTY, HOUSE, MOST_HEAP, N, P, Q, R, many_rules, odd_things, plain_options, plain_values,
                           value_of)


def plain_fault(rules, told):
    """The fault of a list of numbers, one at least, by the words of point 18."""
    right = plain_values(rules, len(told) - 1)
    for heap, value in enumerate(told):
        if value == right[heap]:
            continue
        choices = plain_options(rules, heap) if heap else []
        for option in choices:
            if value_of(right, option) == value:
                return ("has", heap, option)
        return ("lacks", heap, right[heap])
    return None


class ValuesTest(unittest.TestCase):
    def test_against_the_plain_rule(self):
        for rules in many_rules(80, 8):
            self.assertEqual(values(Book(rules), 40), plain_values(rules, 40), rules)

    def test_to_the_limits(self):
        for book in (P, Q, R, N, EMPTY):
            self.assertEqual(values(book, 250), plain_values(book.rules(), 250))
        for book in (Q, R):
            self.assertEqual(values(book, 400), plain_values(book.rules(), 400))
        book = Book([(0, 12, "two", rest, 6) for rest in range(3)] + [(1, 12, "one", 1, 2), (1, 12, "none", 0, 1)])
        self.assertEqual(len(values(book, 400)), 401)
        self.assertEqual(values(book, 60), plain_values(book.rules(), 60))

    def test_examples(self):
        self.assertEqual(values(P, 8), [0, 0, 1, 2, 3, 0, 1, 2, 0])
        self.assertEqual(values(P, 0), [0])
        self.assertEqual(values(EMPTY, 3), [0, 0, 0, 0])
        self.assertEqual(values(Q, 9), [0, 1, 0, 0, 2, 2, 3, 3, 4, 4])
        self.assertEqual(values(R, 9), [0, 1, 0, 0, 2, 1, 1, 0, 0, 2])

    def test_refusals(self):
        for thing in odd_things():
            if not isinstance(thing, Book):
                for work in (values, values_fault, ends):
                    with self.assertRaises(BadBook) as caught:
                        work(thing, None)
                    self.assertIs(caught.exception.thing, thing)
            if type(thing) is not int or thing < 0:
                for work in (values, ends):
                    with self.assertRaises(BadNumber) as caught:
                        work(P, thing)
                    self.assertIs(caught.exception.thing, thing)

    def test_told_lists_are_new(self):
        told = values(P, 5)
        told.append(1)
        told[0] = 9
        self.assertEqual(values(P, 5), [0, 0, 1, 2, 3, 0])
        self.assertIs(type(told), list)
        self.assertEqual(values(book=P, most=2), [0, 0, 1])


class FaultsTest(unittest.TestCase):
    def test_examples(self):
        self.assertEqual(values_fault(P, [0, 0, 1, 2, 2]), ("has", 4, [1, 3]))
        self.assertEqual(values_fault(P, [0, 0, 1, 3]), ("lacks", 3, 2))
        self.assertEqual(values_fault(P, [1]), ("lacks", 0, 0))
        self.assertEqual(values_fault(P, [7, 5, 5]), ("lacks", 0, 0))
        self.assertEqual(values_fault(R, (0, 0)), ("has", 1, []))
        self.assertIsNone(values_fault(P, [0]))
        self.assertIsNone(values_fault(book=P, thing=(0, 0, 1, 2, 3)))

    def test_one_number_otherwise(self):
        for rules in many_rules(30, 9):
            book = Book(rules)
            right = plain_values(rules, 18)
            for at in range(19):
                self.assertIsNone(values_fault(book, right[:at + 1]))
                for value in range(6):
                    told = right[:]
                    told[at] = value
                    self.assertEqual(values_fault(book, told), plain_fault(rules, told), (rules, told))
                    self.assertEqual(values_fault(book, tuple(told[:at + 1])), plain_fault(rules, told[:at + 1]))

    def test_just_one(self):
        for rules in many_rules(20, 10):
            book = Book(rules)
            right = values(book, 60)
            for at in range(1, 61, 7):
                for value in (0, 1, right[at] + 1, right[at] + 9, 10 ** 30):
                    told = right[:at] + [value] + right[at + 1:]
                    fault = values_fault(book, told)
                    if value == right[at]:
                        self.assertIsNone(fault)
                    elif fault[0] == "has":
                        self.assertTrue(is_option(book, at, fault[2]))
                        self.assertEqual(value_of(right, fault[2]), value)
                    else:
                        self.assertEqual(fault, ("lacks", at, right[at]))
                        self.assertLess(fault[2], value)

    def test_no_list_of_numbers(self):
        for thing in odd_things():
            numbers = isinstance(thing, (list, tuple)) and thing and all(type(part) is int and part >= 0 for part in thing)
            if not numbers:
                self.assertEqual(values_fault(P, thing), ("form",))
        for thing in ([0, -1], [0, True], [0, None], [0, [0]], [False], [0, "0"], {0: 0}, "0", [0, 0, 1, 2, 2, None]):
            self.assertEqual(values_fault(P, thing), ("form",))

    def test_told_option_is_new(self):
        values_fault(P, [0, 0, 1, 2, 2])[2].append(9)
        self.assertEqual(values_fault(P, [0, 0, 1, 2, 2]), ("has", 4, [1, 3]))

    def test_four_hundred(self):
        for book in (Q, R, P):
            right = values(book, 400)
            self.assertIsNone(values_fault(book, right))
            self.assertEqual(values_fault(book, right[:-1] + [10 ** 9]), ("lacks", 400, right[400]))


class BackTest(unittest.TestCase):
    def test_against_a_plain_listing(self):
        for rules in many_rules(25, 11):
            book = Book(rules)
            told = {heap: plain_options(rules, heap) for heap in range(1, 15)}
            for most in (0, 1, 14):
                self.assertEqual(ends(book, most), [heap for heap in range(1, most + 1) if told[heap] == []])
                for option in [[]] + [[a] for a in range(1, 8)] + [[a, b] for a in range(1, 8) for b in range(a, 8)]:
                    want = [heap for heap in range(1, most + 1) if option in told[heap]]
                    self.assertEqual(heaps_from(book, option, most), want)
                    self.assertEqual(heaps_from(book, tuple(option), most), want)

    def test_examples(self):
        self.assertEqual(heaps_from(P, [2], 9), [3, 4])
        self.assertEqual(heaps_from(book=P, option=[MOST_HEAP], most=9), [])
        self.assertEqual(ends(book=P, most=9), [1])
        self.assertEqual(ends(Q, 9), [2])
        self.assertEqual(ends(EMPTY, 3), [1, 2, 3])
        self.assertEqual(heaps_from(Q, [3], 400), list(range(5, 401)))

    def test_it_holds(self):
        for rules in many_rules(20, 12):
            book = Book(rules)
            told = values(book, 30)
            self.assertTrue(all(told[heap] == 0 for heap in ends(book, 30)))

    def test_no_option(self):
        bad = [[2, 1], [1, 1, 1], [0], [True], [MOST_HEAP + 1], [None], None, 1, "none", {}, [[1]], (3, 2), [1, 2, 3]]
        for thing in bad:
            for most in (5, None):
                with self.assertRaises(BadOption) as caught:
                    heaps_from(P, thing, most)
                self.assertIs(caught.exception.thing, thing)

    def test_errors_in_their_order(self):
        with self.assertRaises(BadBook):
            heaps_from(None, None, None)
        for thing in odd_things():
            if type(thing) is not int or thing < 0:
                with self.assertRaises(BadNumber) as caught:
                    heaps_from(P, [1, 2], thing)
                self.assertIs(caught.exception.thing, thing)


class WorthTest(unittest.TestCase):
    def test_sums(self):
        told = {name: values(book, 30) for name, book in HOUSE.books()}
        self.assertEqual(worth(HOUSE, [("p", 4), ("r", 5)]), 2)
        self.assertEqual(worth(HOUSE, [("p", 4)]) ^ worth(HOUSE, [("r", 5)]), 3 ^ 1)
        self.assertEqual(worth(house=HOUSE, position=[]), 0)
        self.assertEqual(worth(House([]), ()), 0)
        for first in range(1, 31):
            for second in range(1, 31, 4):
                position = [["q", first], ("n", second), ("p", first), ["q", second]]
                want = told["q"][first] ^ told["n"][second] ^ told["p"][first] ^ told["q"][second]
                self.assertEqual(worth(HOUSE, tuple(position)), want)
                self.assertEqual(worth(HOUSE, position + [("p", first)]), want ^ told["p"][first])

    def test_refusals(self):
        for thing in odd_things():
            if not isinstance(thing, House):
                with self.assertRaises(BadHouse) as caught:
                    worth(thing, None)
                self.assertIs(caught.exception.thing, thing)
            for at in range(3 if thing != ["p", 1] else 0):
                position = [("p", 3), ("q", 4)]
                position.insert(at, thing)
                with self.assertRaises(BadPosition) as caught:
                    worth(HOUSE, position)
                self.assertEqual(caught.exception.index, at)
            if not isinstance(thing, (list, tuple)):
                with self.assertRaises(BadPosition) as caught:
                    worth(HOUSE, thing)
                self.assertEqual(caught.exception.index, 0)
            if type(thing) is not int or not 1 <= thing <= MOST_HEAP:
                with self.assertRaises(BadPosition) as caught:
                    worth(HOUSE, [("p", 3), ("p", thing)])
                self.assertEqual(caught.exception.index, 1)
            if thing != "p":
                with self.assertRaises(BadPosition) as caught:
                    worth(HOUSE, [("p", 3), (thing, 3), None])
                self.assertEqual(caught.exception.index, 1)
        with self.assertRaises(BadPosition):
            worth(HOUSE, [("x", 3)])

    def test_passed_positions_are_not_changed(self):
        position = [["r", 5], ["p", 4]]
        worth(HOUSE, position)
        self.assertEqual(position, [["r", 5], ["p", 4]])


if __name__ == "__main__":
    unittest.main()
