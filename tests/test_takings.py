"""Points 34 to 37, 41 and 42: books that take alone, their windows, their papers."""

import itertools
import random
import time
import unittest

from takeandsplit.alonepapers import alone_fault, alone_paper
from takeandsplit.books import Book
from takeandsplit.errors import BadBook, BadHeap, BadNumber, BadWindow, NotAlone
from takeandsplit.looks import look_fault
from takeandsplit.papers import is_paper, led_paper, values_by
from takeandsplit.takings import bound_of, grows, takes_alone, value_by, window_at
from takeandsplit.values import values, values_fault
from tests.plainplay import Refusals, no_heaps, no_numbers
from tests.samples import EMPTY, MOST_HEAP, N, P, Q, R, Q_PAPER, R_PAPER, many_rules, odd_things, plain_values
from tests.test_looks import reach, turn

T = Book([(1, 2, "none", 0, 1), (1, 2, "one", 0, 1)])
T_PAPER = (1, 3, 0, [0, 1, 2, 0])


def alone(rules):
    return all(rule[1] is not None and rule[2] != "two" for rule in rules)


def alone_rules(count, seed, most_reach=8):
    """Rules of books that take alone, those of many_rules and smaller ones."""
    rng = random.Random(seed)
    found = [rules for rules in many_rules(count, seed) if alone(rules) and reach(rules) <= most_reach]
    for _ in range(count):
        rules = []
        for _ in range(rng.randint(1, 4)):
            low, modulus = rng.randint(1, 3), rng.choice([1, 1, 1, 2, 3, 4])
            rules.append((low, rng.randint(low, 3), rng.choice(["none", "one", "one"]), rng.randrange(modulus), modulus))
        found.append(list(dict.fromkeys(rules)))
    return found


def plain_window(rules, told, heap):
    return (heap % turn(rules), [told[heap - taken] for taken in range(1, reach(rules) + 1)])


def plain_value_by(rules, window):
    rest, last = window
    seen = {last[taken - 1] for low, high, left, own, modulus in rules if left == "one" and rest % modulus == own
            for taken in range(low, high + 1)}
    return next(number for number in itertools.count() if number not in seen)


def plain_alone_paper(rules, most):
    told, first = plain_values(rules, most), reach(rules) + 1
    for heap in range(first, most + 1):
        for ahead in range(first, heap):
            if plain_window(rules, told, ahead) == plain_window(rules, told, heap):
                return (ahead - first + 1, heap - ahead, 0, told[:heap - first + 1])
    return None


class KindsTest(Refusals, unittest.TestCase):
    def test_kinds(self):
        kinds = [(takes_alone(book), grows(book)) for book in (P, Q, R, N, EMPTY, T)]
        alike = [(False, False), (False, True), (True, False), (False, False), (True, False), (True, False)]
        self.assertEqual(kinds, alike)
        self.assertEqual([type(kind) for kind in kinds[0]], [bool, bool])
        for rules in many_rules(80, 31):
            self.assertIs(takes_alone(book=Book(rules)), alone(rules))
            self.assertIs(grows(book=Book(rules)), any(rule[1] is None for rule in rules))
        self.assertIs(takes_alone(Book([(1, 1, "one", 1, 2), (0, 0, "two", 0, 1)])), False)
        self.assertIs(grows(Book([(1, None, "none", 0, 1)])), True)

    def test_no_books(self):
        works = [(takes_alone, ()), (grows, ()), (window_at, (None,)), (value_by, (None,)), (bound_of, ()),
                 (alone_paper, (None,)), (alone_fault, (None,))]
        for thing in odd_things():
            if not isinstance(thing, Book):
                for work, rest in works:
                    self.refuses(BadBook, {"thing": thing}, work, thing, *rest)

    def test_others(self):
        for book in (P, Q, N, Book([(1, None, "none", 0, 1)])):
            for thing in (None, 0, 9, (0, [0, 0])):
                for work in (window_at, value_by, alone_paper, alone_fault):
                    self.refuses(NotAlone, {}, work, book, thing)
            self.refuses(NotAlone, {}, bound_of, book)


class WindowsTest(Refusals, unittest.TestCase):
    def test_examples(self):
        self.assertEqual(window_at(R, 6), (0, [1, 2, 0]))
        self.assertEqual(value_by(R, (0, [1, 2, 0])), 1)
        self.assertEqual(value_by(book=R, window=[0, (1, 2, 0)]), 1)
        self.assertEqual(window_at(book=EMPTY, heap=1), (0, []))
        self.assertEqual(value_by(EMPTY, (0, [])), 0)

    def test_windows_and_values(self):
        for rules in alone_rules(40, 32):
            book, told = Book(rules), plain_values(rules, 40)
            for heap in range(reach(rules) + 1, 41):
                window = window_at(book, heap)
                self.assertEqual(window, plain_window(rules, told, heap))
                self.assertEqual([type(window), type(window[1])], [tuple, list])
                self.assertEqual(value_by(book, window), told[heap], (rules, heap))

    def test_windows_of_any_numbers(self):
        rng = random.Random(33)
        for rules in alone_rules(40, 34):
            for _ in range(20):
                last = [rng.choice([0, 1, 2, 3, 10 ** 9, 10 ** 30]) for _ in range(reach(rules))]
                window = (rng.randrange(turn(rules)), last)
                self.assertEqual(value_by(Book(rules), window), plain_value_by(rules, window))
        self.assertEqual(value_by(R, (0, [0, 0, 0])), 1)
        self.assertEqual(value_by(R, (0, [0, 1, 2])), 0)
        self.assertEqual(value_by(R, (0, [9, 1, 0])), 2)

    def test_to_four_hundred(self):
        book = Book([(1, 12, "one", 0, 1), (3, 9, "none", 2, 5), (4, 4, "one", 1, 6)])
        self.assertEqual(value_by(book, window_at(book, 400)), values(book, 400)[400])
        self.assertEqual(window_at(book, 400)[0], 400 % 30)

    def test_no_windows(self):
        bad = [(1, [1, 2, 0]), (0, [1, 2]), (0, [1, 2, 0, 0]), (0, [1, 2, -1]), (0, [1, 2, None]), (-1, [1, 2, 0]),
               (False, [1, 2, 0]), (0, [1, True, 0]), (0, {}), (0,), (0, [1, 2, 0], 0), ([1, 2, 0], 0), (0, "120")]
        for thing in bad + odd_things():
            self.refuses(BadWindow, {"thing": thing}, value_by, R, thing)
        book = Book([(1, 1, "one", 1, 2), (2, 2, "one", 0, 3)])
        for rest in range(6):
            self.assertEqual(value_by(book, (rest, [4, 0])), (1 if rest % 3 == 0 else 0))
        self.refuses(BadWindow, {}, value_by, book, (6, [4, 0]))

    def test_no_heaps(self):
        for thing in no_heaps(odd_things()) + [1, 2, 3]:
            self.refuses(BadHeap, {"thing": thing}, window_at, R, thing)
        self.assertEqual(window_at(R, 4), (0, [0, 0, 1]))
        self.refuses(BadHeap, {"thing": 0}, window_at, EMPTY, 0)

    def test_told_ones_are_new(self):
        told = window_at(R, 6)
        told[1].clear()
        self.assertEqual(window_at(R, 6), (0, [1, 2, 0]))
        window = [0, [1, 2, 0]]
        value_by(R, window)
        self.assertEqual(window, [0, [1, 2, 0]])


class AlonePaperTest(Refusals, unittest.TestCase):
    def test_examples(self):
        self.assertEqual(alone_paper(R, 99), R_PAPER)
        self.assertEqual(bound_of(R), 34)
        self.assertEqual(alone_paper(book=EMPTY, most=2), (1, 1, 0, [0, 0]))
        self.assertIsNone(alone_paper(EMPTY, 1))
        self.assertEqual(alone_paper(T, 20), T_PAPER)

    def test_by_the_words(self):
        for rules in alone_rules(30, 35):
            for most in (1, 2, 6, 11, 19, 40):
                self.assertEqual(alone_paper(Book(rules), most), plain_alone_paper(rules, most), (rules, most))

    def test_at_below_and_above_the_first_that_comes_again(self):
        for rules in alone_rules(40, 36):
            book = Book(rules)
            least = next((most for most in range(1, 200) if alone_paper(book, most) is not None), None)
            if least is None:
                continue
            paper = alone_paper(book, least)
            self.assertEqual(paper[0] + paper[1] + reach(rules), least)
            self.assertIsNone(alone_paper(book, least - 1) if least > 1 else None)
            for most in (least + 1, least + 50):
                self.assertEqual(alone_paper(book, most), paper)
            self.assertEqual(values_by(paper, 300), values(book, 300))
            self.assertIsNone(alone_fault(book, paper))
            self.assertIsNone(look_fault(book, paper))

    def test_by_the_bound(self):
        tried = 0
        for rules in alone_rules(200, 37, 4):
            bound = bound_of(Book(rules))
            if bound <= 400:
                tried += 1
                paper = alone_paper(Book(rules), bound)
                self.assertIsNotNone(paper, rules)
                self.assertEqual(values_by(paper, 200), plain_values(rules, 200))
        self.assertGreater(tried, 30)

    def test_bounds(self):
        for rules in alone_rules(60, 38, 12):
            taken = {number for low, high, left, _, _ in rules if left == "one" for number in range(low, high + 1)}
            most = reach(rules)
            self.assertEqual(bound_of(book=Book(rules)), 2 * most + 1 + turn(rules) * (len(taken) + 1) ** most)
        self.assertEqual(bound_of(EMPTY), 2)
        self.assertEqual(bound_of(Book([(12, 12, "none", 5, 6)])), 25 + 6)
        self.assertEqual(bound_of(Book([(1, 12, "one", 0, 1), (2, 3, "one", 1, 5)])), 25 + 5 * 13 ** 12)

    def test_to_four_hundred(self):
        began = time.monotonic()
        book = Book([(1, 12, "one", 0, 1), (3, 9, "none", 2, 5), (4, 4, "one", 1, 6), (7, 7, "none", 3, 4)])
        paper = alone_paper(book, 400)
        if paper is not None:
            self.assertIsNone(alone_fault(book, paper))
        self.assertLess(time.monotonic() - began, 10)

    def test_no_numbers(self):
        for thing in no_numbers(odd_things(), 1):
            self.refuses(BadNumber, {"thing": thing}, alone_paper, R, thing)

    def test_told_ones_are_new(self):
        told = alone_paper(R, 99)
        self.assertEqual([type(told), type(told[3])], [tuple, list])
        told[3].clear()
        self.assertEqual(alone_paper(R, 99), R_PAPER)


class AloneFaultTest(unittest.TestCase):
    def test_examples(self):
        self.assertIsNone(alone_fault(R, R_PAPER))
        self.assertIsNone(alone_fault(book=R, thing=[1, 5, 0, (0, 1, 0, 0, 2, 1)]))
        self.assertEqual(alone_fault(R, (1, 5, 0, [0, 1, 0, 1, 2, 1])), ("has", 3, [1]))
        self.assertEqual(alone_fault(R, (1, 5, 0, [0, 1, 0, 0, 2, 2])), ("lacks", 5, 1))
        self.assertEqual(alone_fault(R, (1, 5, 1, [0, 1, 0, 0, 2, 2])), ("gain",))
        self.assertEqual(alone_fault(R, Q_PAPER), ("gain",))
        self.assertEqual(alone_fault(R, (1, 4, 0, [0, 1, 0, 0, 2])), ("has", 6, [3]))

    def test_no_papers(self):
        for thing in odd_things() + [(1, 5, 0, [0, 1]), (1, 5, None, R_PAPER[3])]:
            if not is_paper(thing):
                self.assertEqual(alone_fault(R, thing), ("form",))

    def test_any_paper_by_the_values_of_all_heaps(self):
        """Right just if it tells the values of far more heaps; else the first one that it tells wrong."""
        rng = random.Random(39)
        right = 0
        for rules in alone_rules(50, 40):
            book, told = Book(rules), values(Book(rules), 400)
            for _ in range(30):
                begin, period = rng.randint(1, 12), rng.randint(1, 14)
                row = told[:begin + period]
                if rng.random() < 0.5:
                    row[rng.randrange(1, begin + period)] = rng.randint(0, 4)
                paper = (begin, period, 0, row)
                fault = values_fault(book, values_by(paper, 400))
                right += fault is None
                self.assertEqual(alone_fault(book, paper), fault, (rules, paper))
        self.assertGreater(right, 50)

    def test_periods_that_are_no_multiple_of_the_turn(self):
        still = Book([(1, 1, "none", 3, 4), (2, 2, "one", 1, 2)])
        paper = (1, 1, 0, [0, 0])
        self.assertEqual(alone_fault(still, paper), values_fault(still, values(still, 2) + [0] * 60))
        nothing = Book([(1, 1, "none", 3, 4), (2, 2, "none", 1, 6)])
        for period in (1, 3, 5, 7, 12):
            self.assertIsNone(alone_fault(nothing, (2, period, 0, [0] * (2 + period))))
            self.assertEqual(look_fault(nothing, (2, period, 0, [0] * (2 + period))), None if period == 12 else ("turn",))

    def test_greater_ones(self):
        for rules in alone_rules(20, 41):
            book = Book(rules)
            paper = alone_paper(book, 120)
            if paper is None:
                continue
            for more, times in itertools.product((0, 1, 5), (1, 2, 3)):
                longer = led_paper(paper, paper[0] + more, paper[1] * times)
                self.assertIsNone(alone_fault(book, longer))
                for at in range(1, len(longer[3]), 3):
                    row = list(longer[3])
                    row[at] += 1
                    fault = alone_fault(book, longer[:3] + (row,))
                    self.assertEqual(fault, values_fault(book, row))
                    self.assertEqual(fault[1], at)

    def test_four_hundred_values(self):
        began = time.monotonic()
        nothing = Book([(1, 1, "none", 3, 4), (1, 1, "none", 4, 5), (2, 2, "none", 5, 6)])
        self.assertIsNone(alone_fault(nothing, (3, 397, 0, [0] * 400)))
        self.assertIsNone(alone_fault(R, led_paper(R_PAPER, 100, 300)))
        self.assertLess(time.monotonic() - began, 20)

    def test_told_options_are_new(self):
        paper = (1, 5, 0, [0, 1, 0, 1, 2, 1])
        alone_fault(R, paper)[2].append(7)
        self.assertEqual(alone_fault(R, paper), ("has", 3, [1]))


class FactsTest(unittest.TestCase):
    def books(self, count, seed):
        """Books that take each of some numbers leaving none as well as one, of all heaps."""
        rng = random.Random(seed)
        for _ in range(count):
            taken = sorted(rng.sample(range(1, 9), rng.randint(1, 4)))
            yield taken, [(number, number, left, 0, 1) for number in taken for left in ("none", "one")]

    def test_heaps_of_value_one(self):
        for taken, rules in self.books(60, 42):
            told = values(Book(rules), 80)
            for heap in range(1, 81):
                by_least = heap >= taken[0] and told[heap - taken[0]] == 0
                self.assertEqual(told[heap] == 1, by_least, (taken, heap))

    def test_a_number_more(self):
        for taken, rules in self.books(60, 43):
            told = values(Book(rules), 200)
            for period in range(1, 60):
                if all(told[heap] == told[heap + period] for heap in range(200 - period)):
                    for number, left in itertools.product(taken, (["none"], ["one"], ["none", "one"])):
                        more = [(number + period, number + period, what, 0, 1) for what in left]
                        self.assertEqual(values(Book(list(dict.fromkeys(rules + more))), 150), told[:151])


if __name__ == "__main__":
    unittest.main()
