"""Points 75 and 76: values refused by an option, or by a number that no option has."""

import itertools
import random
import time
import unittest

from takeandsplit.books import Book
from takeandsplit.errors import BadBook, BadHeap, BadNumber, NotRight
from takeandsplit.options import count_options, is_option, option_at
from takeandsplit.papers import led_paper, value_at
from takeandsplit.valuerefusals import is_value_refusal, value_refusal
from tests.alikes import wrong_papers
from tests.engines import PAPERS, SPLITTING, papered_books, right_paper
from tests.plainplay import Refusals, no_heaps, no_numbers
from tests.samples import MOST_HEAP, P, Q, R, R_PAPER, Q_PAPER, odd_things, plain_options, plain_values, value_of

P_PAPER = PAPERS["p"]


def value_by(paper, option):
    value = 0
    for heap in option:
        value ^= value_at(paper, heap)
    return value


class SmallTest(unittest.TestCase):
    def same(self, book, paper, heap, told):
        own = told[heap]
        by_value = {}
        for option in plain_options(book.rules(), heap):
            by_value.setdefault(value_of(told, option), []).append(option)
        for number in range(max([own] + list(by_value)) + 3):
            shown = value_refusal(book, paper, heap, number)
            # Just one: the number is the heap's value, or it is refused.
            self.assertEqual(shown is None, number == own)
            if number < own:
                self.assertEqual(shown[0], "has")
                self.assertIn(shown[1], by_value[number])
            if number > own:
                self.assertEqual(shown, ("lacks", own))
            if shown is not None:
                self.assertIs(is_value_refusal(book, paper, heap, number, shown), True)
                self.assertIs(is_value_refusal(book, paper, heap, number, list(shown)), True)
            for value, options in by_value.items():
                for option in options:
                    for row in (option, option[::-1], tuple(option)):
                        self.assertIs(is_value_refusal(book, paper, heap, number, ("has", row)), value == number)
            for value in range(own + 3):
                told_it = is_value_refusal(book, paper, heap, number, ("lacks", value))
                self.assertIs(told_it, value == own and own < number)

    def test_by_the_plain_rule(self):
        rng = random.Random(470)
        for book, paper in papered_books(40, 471):
            if paper[0] + paper[1] < 60:
                told = plain_values(book.rules(), 16)
                self.same(book, paper, rng.choice((1, 2, 3, 5, 8, 13, 16)), told)

    def test_chosen_books(self):
        for book, paper in [(P, P_PAPER), (Q, Q_PAPER), (R, R_PAPER)]:
            told = plain_values(book.rules(), 30)
            for heap in [1, 2, 3, 4, 5, 7, 13, 30]:
                self.same(book, paper, heap, told)

    def test_examples(self):
        self.assertEqual(value_refusal(book=P, paper=P_PAPER, heap=10 ** 18, number=5), ("lacks", 4))
        shown = value_refusal(P, P_PAPER, 10 ** 18, 3)
        self.assertEqual(shown[0], "has")
        self.assertEqual(value_by(P_PAPER, shown[1]), 3)
        self.assertIsNone(value_refusal(P, P_PAPER, 10 ** 18, 4))
        self.assertIs(is_value_refusal(book=P, paper=P_PAPER, heap=10 ** 18, number=3, thing=("has", [7, 10 ** 18 - 7])), True)
        self.assertIs(is_value_refusal(P, P_PAPER, 10 ** 18, 3, ["has", (10 ** 18 - 7, 7)]), True)
        self.assertIs(is_value_refusal(P, P_PAPER, 10 ** 18, 3, ("has", [8, 10 ** 18 - 7])), False)
        self.assertIs(is_value_refusal(P, P_PAPER, 10 ** 18, 5, ("lacks", 4)), True)


class GreatTest(unittest.TestCase):
    def test_heaps_and_numbers(self):
        rng = random.Random(472)
        some = 0
        for book, paper in list(papered_books(30, 473)) + [(Q, Q_PAPER), (P, P_PAPER)]:
            for heap in (MOST_HEAP, MOST_HEAP - 1, rng.randint(1, MOST_HEAP), rng.randint(1, 500)):
                own = value_at(paper, heap)
                near = [number for number in range(own - 3, own + 4) if number >= 0]
                for number in near + [0, 1, MOST_HEAP, MOST_HEAP + 9, MOST_HEAP + 10, rng.randint(0, MOST_HEAP)]:
                    shown = value_refusal(book, paper, heap, number)
                    if number == own:
                        self.assertIsNone(shown)
                        continue
                    self.assertIs(is_value_refusal(book, paper, heap, number, shown), True)
                    if number > own:
                        self.assertEqual(shown, ("lacks", own))
                        continue
                    word, option = shown
                    self.assertEqual((word, option), ("has", sorted(option)))
                    self.assertTrue(is_option(book, heap, option))
                    self.assertEqual(value_by(paper, option), number)
                    some += heap > 10 ** 6
        self.assertGreater(some, 40)

    def test_options_of_great_heaps(self):
        rng = random.Random(474)
        for book, paper in [(P, P_PAPER)] + [(book, right_paper(book, 250)) for book in SPLITTING]:
            heap = MOST_HEAP - rng.randint(0, 50)
            many = count_options(book, heap)
            for _ in range(10 if many else 0):
                option = option_at(book, heap, rng.randrange(many))
                value = value_by(paper, option)
                for number in (value, value ^ 1, value + 2):
                    self.assertIs(is_value_refusal(book, paper, heap, number, ("has", option[::-1])), number == value)

    def test_longer_papers(self):
        for book, paper in [(P, P_PAPER), (Q, Q_PAPER), (R, R_PAPER)]:
            longer = led_paper(paper, paper[0] + 9, 4 * paper[1])
            for heap, number in itertools.product((7, 100, MOST_HEAP), range(6)):
                told = value_refusal(book, paper, heap, number)
                self.assertEqual(value_refusal(book, longer, heap, number), told)


class RefusalsTest(Refusals, unittest.TestCase):
    def test_in_their_order(self):
        for work, rest in [(value_refusal, ()), (is_value_refusal, (None,))]:
            for thing in odd_things():
                if not isinstance(thing, Book):
                    self.refuses(BadBook, {"thing": thing}, work, thing, None, None, None, *rest)
            for thing in wrong_papers():
                self.refuses(NotRight, {"thing": thing}, work, P, thing, None, None, *rest)
            for thing in no_heaps(odd_things()):
                self.refuses(BadHeap, {"thing": thing}, work, P, P_PAPER, thing, None, *rest)
            for thing in no_numbers(odd_things()):
                self.refuses(BadNumber, {"thing": thing}, work, P, P_PAPER, 5, thing, *rest)

    def test_things(self):
        more = [("has",), ("has", None), ("has", 3), ("has", [9]), ("has", [2], 0), ("lacks", True), ("lacks", None), ("lacks", [1]),
                ("lacks",), ("lack", 3), (None, [2]), {"has": [2]}, "has", ("has", [True]), ("HAS", [2]), ("lacks", 3, 0)]
        for thing in odd_things() + more:
            for number in range(6):
                self.assertIs(is_value_refusal(P, P_PAPER, 4, number, thing), False, (number, thing))
        # P has the value 3 of 4: [2] has 1, [3] has 2, [1, 3] has 2, [2, 2] has 0.
        self.assertIs(is_value_refusal(P, P_PAPER, 4, 1, ["has", (2,)]), True)
        self.assertIs(is_value_refusal(P, P_PAPER, 4, 2, ("has", [3, 1])), True)

    def test_told_ones_are_new(self):
        value_refusal(P, P_PAPER, 4, 2)[1].clear()
        self.assertEqual(value_refusal(P, P_PAPER, 4, 2), ("has", [1, 3]))
        thing = ("has", [3, 1])
        is_value_refusal(P, P_PAPER, 4, 2, thing)
        self.assertEqual(thing, ("has", [3, 1]))
        told = value_refusal(P, P_PAPER, 4, 2)
        self.assertEqual([type(told), type(told[0]), type(told[1])], [tuple, str, list])

    def test_to_the_limits(self):
        began = time.monotonic()
        paper = led_paper(P_PAPER, 300, 99)
        for number in (0, 1, 2, 3, 4, 5, MOST_HEAP + 10):
            shown = value_refusal(P, paper, MOST_HEAP, number)
            self.assertIs(is_value_refusal(P, paper, MOST_HEAP, number, shown), number != 4)
        self.assertLess(time.monotonic() - began, 20)


if __name__ == "__main__":
    unittest.main()
