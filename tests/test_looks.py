"""Points 25 to 29 and 33: the finite look, what it finds, and what bars."""

import itertools
import math
import random
import time
import unittest

from takeandsplit.books import Book
from takeandsplit.errors import BadBook, BadNumber, Grows
from takeandsplit.looks import found_paper, is_no_paper, look_end, look_fault, no_paper
from takeandsplit.papers import is_paper, least_paper, led_paper, papers_part, value_at, values_by
from takeandsplit.values import values, values_fault
from tests.plainplay import Refusals, no_numbers
from tests.samples import EMPTY, N, P, Q, R, Q_PAPER, R_PAPER, many_rules, odd_things, plain_values

P_PAPER = (11, 3, 0, [0, 0, 1, 2, 3, 0, 1, 2, 0, 1, 3, 0, 1, 4])
BIG = Book([(0, 12, "two", 0, 1), (1, 12, "one", 0, 1), (1, 12, "none", 0, 1), (3, 7, "two", 1, 2), (2, 9, "two", 2, 5)])


def still(rules):
    return all(rule[1] is not None for rule in rules)


def still_rules(count, seed):
    """Rules of books without growing ones."""
    return [rules for rules in many_rules(count, seed) if still(rules)]


def turn(rules):
    return math.lcm(1, *[rule[4] for rule in rules])


def reach(rules):
    return max([number for rule in rules for number in rule[:2]], default=0)


def end(rules, begin, period):
    return 2 * begin + 2 * period + reach(rules) - 1


def plain_paper(told, begin, period):
    return (begin, period, 0, told[:begin + period])


def comes_again(told, begin, period, last):
    """Whether told values, to the last, are those of a paper with this begin and period."""
    return all(told[at] == told[at + period] for at in range(begin, last - period + 1))


def looks_to(rules, most):
    """All pairs (period, begin) whose look ends at most there."""
    for period in range(turn(rules), most + 1, turn(rules)):
        for begin in range(1, most + 1):
            if end(rules, begin, period) <= most:
                yield period, begin


def plain_found(rules, most):
    told = plain_values(rules, most)
    for period, begin in looks_to(rules, most):
        if comes_again(told, begin, period, end(rules, begin, period)):
            return plain_paper(told, begin, period)
    return None


def plain_periods(rules, most):
    return sorted({period for period, begin in looks_to(rules, most) if begin == 1})


def plain_is_chain(rules, most, period, chain):
    """Whether it is a chain, by the words of point 29."""
    told = plain_values(rules, most)
    if not chain or sorted(set(chain)) != list(chain) or chain[0] < 1:
        return False
    if any(heap + period > most or told[heap] == told[heap + period] for heap in chain):
        return False
    if not chain[0] < 2 + period + reach(rules):
        return False
    if any(not later < 2 * ahead + 2 + period + reach(rules) for ahead, later in zip(chain, chain[1:])):
        return False
    return end(rules, chain[-1] + 1, period) > most


class LookEndTest(Refusals, unittest.TestCase):
    def test_ends(self):
        for rules in still_rules(40, 1):
            for begin, period in itertools.product((1, 2, 7, 90), repeat=2):
                self.assertEqual(look_end(Book(rules), begin, period), end(rules, begin, period))
        self.assertEqual(look_end(R, 1, 5), 14)
        self.assertEqual(look_end(EMPTY, 1, 1), 3)
        self.assertEqual(look_end(book=Book([(0, 0, "two", 1, 3)]), begin=2, period=3), 9)
        self.assertEqual(look_end(Book([(2, 12, "two", 0, 1), (3, 3, "none", 0, 1)]), 90, 90), 371)

    def test_refusals(self):
        for thing in no_numbers(odd_things(), 1):
            self.refuses(BadNumber, {"thing": thing}, look_end, R, thing, None)
            self.refuses(BadNumber, {"thing": thing}, look_end, R, 1, thing)


class LookFaultTest(Refusals, unittest.TestCase):
    def test_examples(self):
        self.assertIsNone(look_fault(R, R_PAPER))
        self.assertIsNone(look_fault(book=P, thing=P_PAPER))
        self.assertEqual(look_fault(R, (1, 5, 0, [0, 1, 0, 1, 2, 1])), ("has", 3, [1]))
        self.assertEqual(look_fault(R, [1, 5, 0, (0, 1, 0, 0, 2, 2)]), ("lacks", 5, 1))
        self.assertEqual(look_fault(P, P_PAPER[:3] + (P_PAPER[3][:-1] + [2],)), ("has", 13, [4, 9]))
        self.assertIsNone(look_fault(EMPTY, (1, 1, 0, [0, 0])))

    def test_no_papers(self):
        for thing in odd_things() + [(1, 5, 0, [0, 1, 0, 0, 2]), (1, 5, 0, [1, 1, 0, 0, 2, 1]), (0, 6, 0, R_PAPER[3])]:
            if not is_paper(thing):
                self.assertEqual(look_fault(R, thing), ("form",))
        self.assertEqual(look_fault(P, (1, 5, 3, [0, 1, 0, 0, 2, None])), ("form",))

    def test_gain_ahead_of_turn_ahead_of_values(self):
        self.assertEqual(look_fault(P, (1, 5, 1, R_PAPER[3])), ("gain",))
        self.assertEqual(look_fault(P, Q_PAPER), ("gain",))
        self.assertEqual(look_fault(P, R_PAPER), ("turn",))
        self.assertEqual(look_fault(P, (1, 2, 0, [0, 9, 9])), ("turn",))
        self.assertEqual(look_fault(P, (1, 3, 0, [0, 9, 9, 9])), ("lacks", 1, 0))
        self.assertEqual(look_fault(R, (1, 5, 10 ** 9, R_PAPER[3])), ("gain",))
        right = values(N, 40)
        for period in range(1, 13):
            fault = look_fault(N, (5, period, 0, right[:5 + period]))
            self.assertEqual(fault == ("turn",), period % 2 == 1)

    def test_by_the_words(self):
        """All papers of the right values, however long, and those with one value otherwise."""
        for rules in still_rules(30, 2):
            book, told = Book(rules), plain_values(rules, 60)
            for begin, period in itertools.product((1, 2, 5), (1, 2, 3, 6, 12)):
                paper = plain_paper(told, begin, period)
                for at in [None] + list(range(1, begin + period)):
                    for value in ([0] if at is None else [0, 1, 2, 5]):
                        one = paper if at is None else (begin, period, 0, told[:at] + [value] + told[at + 1:begin + period])
                        want = ("turn",)
                        if period % turn(rules) == 0:
                            want = values_fault(book, values_by(one, end(rules, begin, period)))
                        self.assertEqual(look_fault(book, one), want)

    def test_right_ones_are_right_beyond(self):
        for rules in still_rules(60, 3):
            book = Book(rules)
            paper = found_paper(book, 60)
            if paper is None:
                continue
            self.assertEqual(values_by(paper, 200), values(book, 200), rules)
            for more, times in itertools.product((0, 1, 3), (1, 2, 3)):
                longer = led_paper(paper, paper[0] + more, paper[1] * times)
                self.assertIsNone(look_fault(book, longer))
                self.assertIsNone(look_fault(book, list(longer[:3]) + [tuple(longer[3])]))
                self.assertIsNone(papers_part(paper, longer))
            short = least_paper(paper)
            self.assertIsNone(papers_part(paper, short))
            self.assertEqual(look_fault(book, short), None if short[1] % turn(rules) == 0 else ("turn",))

    def test_all_that_tell_the_values_are_right(self):
        for rules in still_rules(20, 4):
            book, told = Book(rules), values(Book(rules), 160)
            for begin, times in itertools.product(range(1, 8), range(1, 4)):
                period = times * turn(rules)
                if comes_again(told, begin, period, 160):
                    self.assertIsNone(look_fault(book, plain_paper(told, begin, period)))

    def test_values_that_go_on_for_a_while(self):
        late = [([(2, 2, "two", 0, 1)], 1, 1, 4, 5), ([(2, 3, "two", 0, 1)], 1, 1, 4, 6), ([(3, 3, "none", 0, 1)], 1, 1, 3, 6)]
        for rules, begin, period, wrong, last in late:
            book = Book(rules)
            self.assertEqual(look_end(book, begin, period), last)
            fault = look_fault(book, plain_paper(plain_values(rules, 30), begin, period))
            self.assertEqual(fault[1], wrong)
        found = {}
        for rules in [rules for rules, _, _, _, _ in late] + still_rules(300, 5):
            told = plain_values(rules, 40)
            for begin, period in itertools.product(range(1, 6), repeat=2):
                last = end(rules, begin, period)
                wrong = [at for at in range(begin + period, last + 1) if told[at] != told[at - period]]
                if period % turn(rules) == 0 and last <= 40 and wrong:
                    fault = look_fault(Book(rules), plain_paper(told, begin, period))
                    self.assertEqual(fault[1], wrong[0])
                    found.setdefault(last - wrong[0], rules)
        self.assertLessEqual({1, 2, 3, 4, 5}, set(found))

    def test_told_options_are_new(self):
        paper = (1, 5, 0, [0, 1, 0, 1, 2, 1])
        look_fault(R, paper)[2].append(7)
        self.assertEqual(look_fault(R, paper), ("has", 3, [1]))
        self.assertEqual(paper, (1, 5, 0, [0, 1, 0, 1, 2, 1]))


class FoundTest(Refusals, unittest.TestCase):
    def test_examples(self):
        self.assertEqual(found_paper(R, 14), R_PAPER)
        self.assertIsNone(found_paper(R, 13))
        self.assertEqual(found_paper(book=EMPTY, most=3), (1, 1, 0, [0, 0]))
        self.assertIsNone(found_paper(EMPTY, 2))
        self.assertIsNone(found_paper(EMPTY, 0))
        self.assertEqual(found_paper(P, look_end(P, 11, 3)), P_PAPER)
        self.assertIsNone(found_paper(P, look_end(P, 11, 3) - 1))

    def test_against_all_begins_and_periods(self):
        for rules in still_rules(40, 6):
            for most in (0, 1, 5, 12, 20, 33, 48):
                want = plain_found(rules, most)
                self.assertEqual(found_paper(Book(rules), most), want, (rules, most))
                self.assertEqual(no_paper(Book(rules), most) is None, want is not None)

    def test_least_bounds(self):
        tried = 0
        for rules in still_rules(60, 7):
            book = Book(rules)
            bounds = [most for most in range(61) if found_paper(book, most) is not None]
            if not bounds:
                continue
            least = bounds[0]
            self.assertEqual(bounds, list(range(least, 61)))
            paper = found_paper(book, least)
            self.assertEqual(look_end(book, paper[0], paper[1]), least)
            self.assertIsNone(look_fault(book, paper))
            self.assertEqual(paper, plain_found(rules, least))
            self.assertIsNone(plain_found(rules, least - 1))
            self.assertTrue(is_no_paper(book, least - 1, no_paper(book, least - 1)))
            self.assertIsNone(no_paper(book, least))
            tried += 1
        self.assertGreater(tried, 15)

    def test_told_ones_are_new(self):
        told = found_paper(R, 20)
        self.assertEqual([type(told), type(told[3])], [tuple, list])
        told[3].clear()
        self.assertEqual(found_paper(R, 20), R_PAPER)

    def test_to_the_limits(self):
        began = time.monotonic()
        for book, most in [(R, 400), (P, 250), (N, 250), (BIG, 250), (Book([(1, 12, "one", 0, 1)]), 400)]:
            paper = found_paper(book, most)
            if paper is None:
                self.assertTrue(is_no_paper(book, most, no_paper(book, most)))
            else:
                self.assertEqual(values_by(paper, most), values(book, most))
        self.assertLess(time.monotonic() - began, 20)

    def test_great_heaps_of_found_papers(self):
        paper = found_paper(P, 60)
        self.assertEqual(value_at(paper, 10 ** 18), 4)


class NoPaperTest(Refusals, unittest.TestCase):
    def test_examples(self):
        self.assertIs(is_no_paper(R, 13, {1: [4], 2: [3], 3: [2], 4: [2]}), True)
        self.assertEqual(list(no_paper(R, 13)), [1, 2, 3, 4])
        self.assertIsNone(no_paper(R, 14))
        self.assertEqual(no_paper(EMPTY, 2), {})
        self.assertIs(is_no_paper(EMPTY, 2, {}), True)
        self.assertEqual(no_paper(book=R, most=5), {})
        self.assertIs(is_no_paper(book=R, most=5, thing={}), True)
        self.assertEqual([list(no_paper(R, most)) for most in (6, 7, 8)], [[1], [1], [1, 2]])

    def test_chains_told(self):
        for rules in still_rules(50, 8):
            book = Book(rules)
            for most in (0, 3, 9, 17, 30, 44):
                told = no_paper(book, most)
                if told is None:
                    self.assertIsNotNone(plain_found(rules, most))
                    continue
                self.assertEqual(list(told), plain_periods(rules, most))
                for period, chain in told.items():
                    self.assertIs(type(chain), list)
                    self.assertTrue(plain_is_chain(rules, most, period, chain), (rules, most, period, chain))
                self.assertIs(is_no_paper(book, most, told), True)
                backwards = {period: tuple(told[period]) for period in reversed(list(told))}
                self.assertIs(is_no_paper(book, most, backwards), True)
                self.assertEqual(no_paper(book, most), told)

    def test_chains_otherwise(self):
        """What is told, with a heap more, fewer, otherwise, in another order: right just if it is by the words."""
        rng = random.Random(9)
        right = wrong = 0
        for rules in still_rules(80, 10):
            book = Book(rules)
            for most in (9, 17, 30, 44):
                told = no_paper(book, most)
                for _ in range(25 if told else 0):
                    period = rng.choice(list(told))
                    chain = list(told[period])
                    for _ in range(rng.randint(1, 3)):
                        at = rng.randrange(len(chain) + 1)
                        deed = rng.randrange(4)
                        if deed == 0:
                            chain.insert(at, rng.randint(0, most))
                        elif deed == 1 and at < len(chain):
                            chain.pop(at)
                        elif deed == 2 and at < len(chain):
                            chain[at] += rng.randint(-3, 3)
                        else:
                            chain.sort()
                    good = plain_is_chain(rules, most, period, chain)
                    right, wrong = right + good, wrong + (not good)
                    self.assertIs(is_no_paper(book, most, {**told, period: chain}), good, (rules, most, period, chain))
        self.assertGreater(min(right, wrong), 100)

    def test_all_small_chains(self):
        for rules, most in [(R.rules(), 13), (P.rules(), 20), ([(3, 3, "none", 0, 1)], 7), ([(2, 2, "two", 0, 1)], 9)]:
            book = Book(rules)
            told = no_paper(book, most)
            for period in told:
                for size in range(4):
                    for chain in itertools.permutations(range(0, most + 2, 1 + size // 3), size):
                        good = plain_is_chain(rules, most, period, chain)
                        self.assertIs(is_no_paper(book, most, {**told, period: list(chain)}), good)

    def test_not_for_all_periods(self):
        for book, most in [(R, 13), (P, 24), (BIG, 60)]:
            told = no_paper(book, most)
            for period in told:
                self.assertIs(is_no_paper(book, most, {at: told[at] for at in told if at != period}), False)
            for more in [0, -1, max(told) + 1, max(told) + 3, "1", None, (1,), R_PAPER[:2]]:
                self.assertIs(is_no_paper(book, most, {**told, more: told[min(told)]}), False)
        told = no_paper(R, 13)
        self.assertIs(is_no_paper(R, 13, {True: told[1], 2: told[2], 3: told[3], 4: told[4]}), False)
        self.assertIs(is_no_paper(R, 11, told), False)
        self.assertIs(is_no_paper(R, 14, told), False)

    def test_things(self):
        for thing in odd_things():
            if thing != {}:
                self.assertIs(is_no_paper(R, 5, thing), False)
            self.assertIs(is_no_paper(R, 13, thing), False)
            for book, most in [(R, 14), (R, 40)]:
                self.assertIs(is_no_paper(book, most, thing), False)
            heaps = isinstance(thing, (list, tuple)) and all(type(part) is int for part in thing)
            self.assertIs(is_no_paper(R, 7, {1: thing}), heaps and plain_is_chain(R.rules(), 7, 1, list(thing)))
            self.assertIs(is_no_paper(R, 7, {1: [thing]}), type(thing) is int and thing in (1, 3, 4))

    def test_just_one(self):
        for rules in still_rules(60, 11):
            for most in (4, 15, 40, 90):
                book = Book(rules)
                found, told = found_paper(book, most), no_paper(book, most)
                self.assertEqual(found is None, told is not None)
                self.assertIs(is_no_paper(book, most, told), told is not None)

    def test_told_ones_are_new(self):
        told = no_paper(R, 13)
        want = {period: list(chain) for period, chain in told.items()}
        told[1].append(5)
        told[2].clear()
        del told[4]
        self.assertEqual(no_paper(R, 13), want)
        self.assertEqual(len({id(chain) for chain in want.values()}), 4)
        passed = {4: (2,), 3: [2], 2: [3], 1: [4]}
        self.assertTrue(is_no_paper(R, 13, passed))
        self.assertEqual(passed, {4: (2,), 3: [2], 2: [3], 1: [4]})

    def test_books_in_turns(self):
        want = [found_paper(P, 60), no_paper(P, 20), found_paper(R, 60), no_paper(R, 13)]
        for _ in range(3):
            self.assertEqual([found_paper(P, 60), no_paper(P, 20), found_paper(R, 60), no_paper(R, 13)], want)


class RefusalsTest(Refusals, unittest.TestCase):
    def works(self, last):
        return [(look_end, (last, last)), (look_fault, (last,)), (found_paper, (last,)), (no_paper, (last,)),
                (is_no_paper, (last, last))]

    def test_books_ahead_of_all(self):
        for thing in odd_things():
            for work, rest in self.works(thing):
                if not isinstance(thing, Book):
                    self.refuses(BadBook, {"thing": thing}, work, thing, *rest)
                self.refuses(Grows, {}, work, Q, *rest)
        for rules in many_rules(40, 12):
            if not still(rules):
                self.refuses(Grows, {}, look_fault, Book(rules), None)
                self.refuses(Grows, {}, found_paper, Book(rules), 9)

    def test_numbers(self):
        for thing in no_numbers(odd_things()):
            for work, rest in [(found_paper, ()), (no_paper, ()), (is_no_paper, (None,))]:
                self.refuses(BadNumber, {"thing": thing}, work, R, thing, *rest)


if __name__ == "__main__":
    unittest.main()
