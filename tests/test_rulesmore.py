"""Points 63, 65 and 70: rules that change nothing where a book has them, too."""

import itertools
import random
import time
import unittest
from math import lcm

from takeandsplit.books import Book
from takeandsplit.errors import BadBook, BadNumber, BadRule, NotRight
from takeandsplit.looks import found_paper, look_fault
from takeandsplit.papers import least_paper, values_by
from takeandsplit.rules import rules_fault
from takeandsplit.rulesmore import idle, idle_rules
from takeandsplit.takings import grows
from takeandsplit.values import values
from tests.alikes import LATE_MORE, T, T_PAPER, longer, many_pairs, more_rules, wrong_papers
from tests.engines import PAPERS, SPLITTING, right_paper
from tests.plainplay import Refusals, no_numbers
from tests.samples import EMPTY, P, Q, R, R_PAPER, R_RULES, odd_things, plain_options, value_of
from tests.test_alike import EMPTY_PAPER


def plain_idle(book, rule, most):
    """None, or the least heap to most to which the rule leaves an option with the heap's own value, and the first one."""
    told = values(book, most)
    for heap in range(1, most + 1):
        for option in plain_options([rule], heap):
            if value_of(told, option) == told[heap]:
                return (heap, option)
    return None


def bound(paper, rules):
    """The number of point 65, by the least paper that tells the same."""
    begin, period, _, _ = least_paper(paper)
    step = lcm(period, *[rule[4] for rule in rules])
    return 2 * begin + 2 * step + max(rule[0] if rule[1] is None else rule[1] for rule in rules)


class IdleTest(Refusals, unittest.TestCase):
    def test_examples(self):
        self.assertIsNone(idle(book=T, paper=T_PAPER, rule=(4, 4, "one", 0, 1)))
        self.assertEqual(idle(T, T_PAPER, [3, 3, "one", 0, 1]), (4, [1]))
        self.assertEqual(idle(T, T_PAPER, (3, 3, "none", 0, 1)), (3, []))

    def test_by_the_plain_rule(self):
        rng = random.Random(421)
        idles = changes = growing = 0
        for book, paper in many_pairs(70, 422):
            for rule in more_rules(rng, book, 4):
                told = idle(book, paper, rule)
                far = bound(paper, book.rules() + [rule])
                want = plain_idle(book, rule, min(far, 150))
                if want is not None:
                    self.assertEqual(told, want, (book.rules(), rule))
                    self.assertLess(told[0], far)
                    self.assertEqual([type(told), type(told[0]), type(told[1])], [tuple, int, list])
                    growing += rule[1] is None or grows(book)
                    changes += 1
                    continue
                alike = values(Book(book.rules() + [rule]), 220) == values_by(paper, 220)
                self.assertEqual(told is None, alike, (book.rules(), rule))
                idles += alike
        self.assertGreater(min(idles, changes, growing), 20)

    def test_late_ones(self):
        for rules, rule, want in LATE_MORE:
            book = Book(rules)
            paper = right_paper(book, 400)
            self.assertEqual(idle(book, paper, rule), want)
            self.assertEqual(idle(book, longer(paper, 30, 2), rule), want)
            self.assertEqual(plain_idle(book, rule, want[0]), want)

    def test_rules_of_the_book(self):
        for book, paper in many_pairs(15, 423):
            for rule in book.rules():
                self.assertIsNone(idle(book, paper, rule))
                self.assertIsNone(idle(book, paper, list(rule)))

    def test_rests_and_moduli(self):
        for rest, modulus in [(rest, modulus) for modulus in range(2, 7) for rest in range(modulus)]:
            for low, high, left in [(3, 3, "one"), (1, 4, "one"), (4, 4, "none"), (0, 2, "two"), (12, 12, "two")]:
                rule = (low, high, left, rest, modulus)
                want = plain_idle(R, rule, 120)
                self.assertEqual(idle(R, R_PAPER, rule), want)
                self.assertEqual(idle(R, longer(R_PAPER, 8, 3), rule), want)

    def test_growing_ones(self):
        for low, left in itertools.product((1, 2, 3, 5, 12), ("none", "one")):
            rule = (low, None, left, 0, 1)
            for book, paper in [(R, R_PAPER), (T, T_PAPER), (EMPTY, EMPTY_PAPER), (Q, PAPERS["q"])]:
                self.assertEqual(idle(book, paper, rule), None if rule in book.rules() else plain_idle(book, rule, 200))
        nim = Book([(1, None, "none", 0, 1), (1, None, "one", 0, 1)])
        paper = right_paper(nim, 9)
        for rule in [(5, None, "one", 0, 1), (7, None, "none", 0, 1), (3, 12, "one", 2, 6), (4, 9, "none", 0, 1)]:
            self.assertIsNone(idle(nim, paper, rule))

    def test_growing_ones_that_change_heaps_far_behind(self):
        """Small values of early heaps stay among what a growing rule leaves, however great the heap."""
        found = 0
        for low, high in itertools.product((1, 2, 3), (3, 6, 9)):
            book = Book([(low, None, "one", 0, 1), (1, high, "none", 0, 1), (2, 2, "one", 1, 3)])
            paper = right_paper(book, 400)
            if paper is None:
                continue
            for rule in [(more, None, "one", 0, 1) for more in range(1, 13)]:
                if rule not in book.rules():
                    found += 1
                    self.assertEqual(idle(book, paper, rule), plain_idle(book, rule, 300))
        self.assertGreater(found, 10)

    def test_idle_together(self):
        """Rules that are idle each by itself are so together, and have the same papers."""
        rng = random.Random(424)
        for book, paper in many_pairs(30, 425):
            some = [rule for rule in more_rules(rng, book, 8) if idle(book, paper, rule) is None]
            kept = []
            for rule in some:
                if rules_fault(book.rules() + kept + [rule]) is None:
                    kept.append(rule)
            more = Book(book.rules() + kept)
            self.assertEqual(values(more, 150), values_by(paper, 150))

    def test_refusals_in_their_order(self):
        for thing in odd_things():
            if not isinstance(thing, Book):
                self.refuses(BadBook, {"thing": thing}, idle, thing, None, None)
                self.refuses(BadBook, {"thing": thing}, idle_rules, thing, None, None)
            if thing not in ((1, 1, "none", 0, 1), [1, 1, "none", 0, 1]):
                self.refuses(BadRule, {"thing": thing}, idle, P, PAPERS["p"], thing)
        for thing in wrong_papers():
            self.refuses(NotRight, {"thing": thing}, idle, P, thing, None)
            self.refuses(NotRight, {"thing": thing}, idle_rules, P, thing, None)

    def test_no_rules(self):
        odd = [(1, 1, "three", 0, 1), (0, 0, "one", 0, 1), (2, 1, "one", 0, 1), (1, 1, "one", 1, 1), (1, 1, "one", 0, 0),
               (1, None, "two", 0, 1), (1, None, "one", 0, 2), (True, 1, "one", 0, 1), (1, 1, "one", 0), (1, 1, "one", 0, 1, 1)]
        for thing in odd:
            self.refuses(BadRule, {"thing": thing}, idle, P, PAPERS["p"], thing)
            self.refuses(BadRule, {"thing": thing}, idle, Q, PAPERS["q"], thing)

    def test_what_may_not_stand_beside(self):
        for low in (1, 3, 12):
            self.refuses(BadRule, {}, idle, P, PAPERS["p"], (low, None, "one", 0, 1))
            self.refuses(BadRule, {}, idle, Q, PAPERS["q"], (low, low, "two", 0, 1))
        thing = [1, None, "none", 0, 1]
        self.refuses(BadRule, {"thing": thing}, idle, P, PAPERS["p"], thing)
        self.assertIsNotNone(idle(R, R_PAPER, (1, None, "one", 0, 1)))
        self.assertIsNotNone(idle(R, R_PAPER, (0, 0, "two", 0, 1)))

    def test_told_and_passed_ones(self):
        told = idle(T, T_PAPER, (3, 3, "one", 0, 1))
        told[1].clear()
        self.assertEqual(idle(T, T_PAPER, (3, 3, "one", 0, 1)), (4, [1]))
        rule, paper = [3, 3, "one", 0, 1], [1, 3, 0, [0, 1, 2, 0]]
        idle(T, paper, rule)
        self.assertEqual((rule, paper), ([3, 3, "one", 0, 1], [1, 3, 0, [0, 1, 2, 0]]))


class IdleRulesTest(Refusals, unittest.TestCase):
    def test_by_the_plain_rule(self):
        for book, paper in many_pairs(25, 431):
            want = [(number, number, left, 0, 1) for number in range(5) for left in ("none", "one", "two")]
            want = [rule for rule in want if rules_fault(book.rules() + [rule]) is None and plain_idle(book, rule, 120) is None]
            self.assertEqual(idle_rules(book, paper, 4), sorted(want), book.rules())

    def test_few(self):
        self.assertEqual(idle_rules(book=T, paper=T_PAPER, most=0), [])
        every = [(number, number, left, 0, 1) for number in (1, 2, 4) for left in ("none", "one")]
        self.assertEqual(idle_rules(T, T_PAPER, 4), every)
        self.assertEqual(idle_rules(EMPTY, EMPTY_PAPER, 0), [])
        self.assertEqual([rule for rule in idle_rules(Q, PAPERS["q"], 12) if rule[2] == "two"], [])
        for rule in R_RULES:
            self.assertNotIn(rule, idle_rules(R, R_PAPER, 12))
        nim = Book([(1, None, "none", 0, 1), (1, None, "one", 0, 1)])
        every = [(number, number, left, 0, 1) for number in range(1, 7) for left in ("none", "one")]
        self.assertEqual(idle_rules(nim, right_paper(nim, 9), 6), every)

    def test_each_is_idle(self):
        for book, paper in many_pairs(15, 432):
            told = idle_rules(book, paper, 12)
            self.assertEqual(told, sorted(told))
            for number, left in itertools.product(range(13), ("none", "one", "two")):
                rule = (number, number, left, 0, 1)
                if rules_fault(book.rules() + [rule]) is None:
                    self.assertEqual(rule in told, idle(book, paper, rule) is None)
            if rules_fault(book.rules() + told) is None:
                self.assertEqual(values(Book(book.rules() + told), 120), values_by(paper, 120))
            told.clear()
            self.assertEqual(idle_rules(book, paper, 2), idle_rules(book, longer(paper, 3, 2), 2))

    def test_refusals(self):
        for thing in no_numbers(odd_things()):
            self.refuses(BadNumber, {"thing": thing}, idle_rules, P, PAPERS["p"], thing)

    def test_to_the_limits(self):
        began = time.monotonic()
        tried = 0
        for book in SPLITTING + [P, Book([(4, 4, "one", 0, 3), (5, 5, "one", 1, 4), (1, 12, "none", 0, 1)])]:
            paper = found_paper(book, 200)
            if paper is not None:
                tried += 1
                self.assertIsNone(look_fault(book, paper))
                idle_rules(book, paper, 12)
                for rest in range(6):
                    idle(book, paper, (0, 12, "two", rest, 6))
        self.assertGreater(tried, 2)
        self.assertLess(time.monotonic() - began, 20)


if __name__ == "__main__":
    unittest.main()
