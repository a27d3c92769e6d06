"""Points 64, 65 and 70: rules of a book without which its values are the same."""

import random
import time
import unittest

from takeandsplit.books import Book
from takeandsplit.errors import BadBook, NoRule, NotRight
from takeandsplit.looks import found_paper
from takeandsplit.papers import value_at, values_by
from takeandsplit.rulesfewer import lost_without, needless, thinned
from takeandsplit.takings import grows
from takeandsplit.values import values
from tests.alikes import LATE_FEWER, T, T_PAPER, longer, many_pairs, more_rules, written_otherwise, wrong_papers
from tests.engines import PAPERS, SPLITTING, right_paper
from tests.plainplay import Refusals
from tests.samples import EMPTY, P, Q, R, R_PAPER, odd_things, plain_options, value_of
from tests.test_alike import EMPTY_PAPER
from tests.test_rulesmore import bound


def without(rules, rule):
    return [known for known in rules if known != rule]


def plain_lost_without(rules, rule, paper, most):
    """The first heap to most with another value by the other rules, and that value, None if there is none."""
    told = values_by(paper, most)
    for heap, value in enumerate(values(Book(without(rules, rule)), most)):
        if value != told[heap]:
            return (heap, value)
    return None


def crowded_pairs(count, seed):
    """Pairs of a book with needless rules among its own, and a right paper."""
    rng = random.Random(seed)
    for book, paper in many_pairs(count, seed):
        more = Book(list(dict.fromkeys(book.rules() + written_otherwise(rng, book.rules()) + more_rules(rng, book, 1)))[:10])
        if book.rules():
            paper = right_paper(more, 250)
            if paper is not None:
                yield more, paper


class LostTest(Refusals, unittest.TestCase):
    def test_examples(self):
        self.assertEqual([lost_without(T, T_PAPER, rule) for rule in T.rules()], [(1, 0), (2, 1)])
        self.assertEqual(lost_without(book=T, paper=T_PAPER, rule=[1, 2, "one", 0, 1]), (2, 1))

    def test_by_the_plain_rule(self):
        kinds = {}
        for book, paper in many_pairs(80, 441) + list(crowded_pairs(30, 442)):
            for rule in book.rules():
                told = lost_without(book, paper, rule)
                far = bound(paper, book.rules())
                want = plain_lost_without(book.rules(), rule, paper, min(far, 200))
                self.assertEqual(told, want, (book.rules(), rule))
                kinds[grows(book), told is None] = True
                if told is None:
                    self.assertEqual(values(Book(without(book.rules(), rule)), 220), values_by(paper, 220))
                    continue
                heap, number = told
                self.assertEqual([type(told), type(heap), type(number)], [tuple, int, int])
                self.assertLess(heap, far)
                # The rule's options alone have the number there, and it is less than the heap's value.
                self.assertLess(number, value_at(paper, heap))
                row = values_by(paper, heap)
                by = [option for option in plain_options([rule], heap) if value_of(row, option) == number]
                others = plain_options(without(book.rules(), rule), heap)
                self.assertTrue(by)
                self.assertFalse([option for option in others if value_of(row, option) == number])
        self.assertEqual(len(kinds), 4)

    def test_late_ones(self):
        for rules, rule, want in LATE_FEWER:
            book = Book(rules)
            paper = right_paper(book, 400)
            self.assertEqual(lost_without(book, paper, rule), want)
            self.assertEqual(lost_without(book, longer(paper, 30, 2), rule), want)
            self.assertEqual(plain_lost_without(rules, rule, paper, want[0]), want)

    def test_growing_ones(self):
        """Of a growing rule without which only the last heaps are left, or none."""
        found = {}
        for low, more, high in [(low, more, high) for low in (1, 2, 4) for more in (1, 3, 12) for high in (1, 5, 12)]:
            rules = [(low, None, "one", 0, 1), (low + more, None, "one", 0, 1), (1, high, "none", 0, 1), (1, None, "none", 0, 1)]
            book = Book(rules)
            paper = right_paper(book, 400)
            if paper is None:
                continue
            for rule in rules:
                want = plain_lost_without(rules, rule, paper, 400)
                self.assertEqual(lost_without(book, paper, rule), want)
                found[rule[1] is None, want is None] = True
        self.assertEqual(len(found), 3)

    def test_refusals_in_their_order(self):
        for thing in odd_things():
            if not isinstance(thing, Book):
                self.refuses(BadBook, {"thing": thing}, lost_without, thing, None, None)
            if thing not in ((1, 1, "none", 0, 1), [1, 1, "none", 0, 1]):
                self.refuses(NoRule, {"thing": thing}, lost_without, R, R_PAPER, thing)
        for thing in wrong_papers():
            self.refuses(NotRight, {"thing": thing}, lost_without, P, thing, None)
        for thing in [(1, 2, "none", 0, 1), (1, 2, "one", 0, 2), (2, 2, "none", 0, 1, 0), (2, 2, "none", False, 1), [1, 2, "two", 0, 1]]:
            self.refuses(NoRule, {"thing": thing}, lost_without, P, PAPERS["p"], thing)
        self.refuses(NoRule, {}, lost_without, EMPTY, EMPTY_PAPER, (1, 1, "none", 0, 1))


class NeedlessTest(Refusals, unittest.TestCase):
    def test_examples(self):
        self.assertEqual((needless(book=T, paper=T_PAPER), thinned(book=T, paper=T_PAPER)), ([], T))
        self.assertEqual((needless(EMPTY, EMPTY_PAPER), thinned(EMPTY, EMPTY_PAPER)), ([], EMPTY))

    def test_by_the_plain_rule(self):
        some = 0
        for book, paper in many_pairs(30, 451) + list(crowded_pairs(50, 452)):
            told = needless(book, paper)
            want = [rule for rule in book.rules() if plain_lost_without(book.rules(), rule, paper, 150) is None]
            self.assertEqual(told, want)
            some += len(told)
            self.assertEqual(thinned(book, paper), thinned(book, longer(paper, 4, 2)))
            self.thin(book, paper, thinned(book, paper))
        self.assertGreater(some, 50)

    def thin(self, book, paper, other):
        """It has some of the book's rules, the same values, and no rule less would do."""
        self.assertTrue(all(rule in book.rules() for rule in other.rules()))
        self.assertEqual(values(other, 150), values_by(paper, 150))
        for rule in other.rules():
            self.assertIsNotNone(plain_lost_without(other.rules(), rule, paper, 150))

    def test_needed_together(self):
        """Each of two ways to write the same rule is needless by itself, not both."""
        rules = [(1, 2, "none", 0, 1), (1, 2, "one", 0, 1), (1, 1, "none", 0, 1), (2, 2, "none", 0, 1)]
        book = Book(rules)
        self.assertEqual(needless(book, T_PAPER), [rule for rule in book.rules() if rule[2] == "none"])
        self.assertEqual(len(thinned(book, T_PAPER).rules()), 2)
        self.thin(book, T_PAPER, thinned(book, T_PAPER))
        nim = [(1, None, "none", 0, 1), (1, None, "one", 0, 1), (2, None, "one", 0, 1), (1, 1, "one", 0, 1), (3, 9, "one", 0, 1)]
        book = Book(nim)
        paper = right_paper(book, 60)
        self.assertIn((1, None, "one", 0, 1), needless(book, paper))
        self.thin(book, paper, thinned(book, paper))

    def test_told_ones_are_new(self):
        book = Book([(1, 2, "none", 0, 1), (1, 2, "one", 0, 1), (1, 1, "none", 0, 1)])
        needless(book, T_PAPER).clear()
        self.assertEqual(needless(book, T_PAPER), [(1, 1, "none", 0, 1)])
        self.assertEqual(len(book.rules()), 3)

    def test_refusals(self):
        for work in (needless, thinned):
            for thing in odd_things():
                if not isinstance(thing, Book):
                    self.refuses(BadBook, {"thing": thing}, work, thing, None)
            for thing in wrong_papers():
                self.refuses(NotRight, {"thing": thing}, work, P, thing)
            self.refuses(NotRight, {"thing": R_PAPER}, work, Q, R_PAPER)

    def test_to_the_limits(self):
        began = time.monotonic()
        rng = random.Random(453)
        for book in SPLITTING + [P]:
            more = Book(list(dict.fromkeys(book.rules() + more_rules(rng, book, 8)))[:10])
            paper = found_paper(more, 200)
            if paper is not None:
                self.thin(more, paper, thinned(more, paper))
                needless(more, paper)
        self.assertLess(time.monotonic() - began, 20)


if __name__ == "__main__":
    unittest.main()
