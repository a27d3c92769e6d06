"""Points 38 to 40 and 42: books that grow, their bases, states and papers."""

import itertools
import math
import random
import time
import unittest

from takeandsplit.books import Book
from takeandsplit.errors import BadBook, BadHeap, BadNumber, NotGrowing
from takeandsplit.growing import base_at, growing_fault, growing_paper, state_at
from takeandsplit.papers import is_paper, led_paper, values_by
from takeandsplit.values import values, values_fault
from tests.plainplay import Refusals, no_heaps, no_numbers
from tests.samples import EMPTY, N, P, Q, R, Q_PAPER, R_PAPER, many_rules, odd_things, plain_options, plain_values, value_of
from tests.test_looks import turn

NIM = Book([(1, None, "none", 0, 1), (1, None, "one", 0, 1)])
ALL_OR_NOTHING = Book([(1, None, "none", 0, 1)])


def reach(rules):
    return max([number for rule in rules for number in rule[:2] if number is not None], default=0)


def growing_rules(count, seed):
    """Rules of books that grow."""
    rng = random.Random(seed)
    found = [rules for rules in many_rules(3 * count, seed) if any(rule[1] is None for rule in rules)]
    for _ in range(count):
        rules = [(rng.randint(1, 4), None, rng.choice(["none", "one", "one"]), 0, 1)]
        for _ in range(rng.randint(0, 3)):
            low, modulus = rng.randint(1, 4), rng.choice([1, 1, 2, 3])
            left = rng.choice(["none", "one"])
            rules.append((low, rng.randint(low, 4), left, rng.randrange(modulus), modulus))
        found.append(list(dict.fromkeys(rules)))
    return found


def plain_left(rules, told, heap):
    """The set of the values of what growing rules leave."""
    return {value_of(told, option) for option in plain_options([rule for rule in rules if rule[1] is None], heap)}


def plain_base(rules, told, heap):
    left = plain_left(rules, told, heap)
    return next(number for number in itertools.count() if number not in left)


def plain_state(rules, told, heap):
    base = plain_base(rules, told, heap)
    extras = sorted(value - base for value in plain_left(rules, told, heap) if value > base)
    last = [told[heap - taken] - base for taken in range(1, reach(rules) + 1)]
    return (heap % turn(rules), extras, [value if value >= 0 else -1 for value in last])


def plain_growing_paper(rules, most):
    told = plain_values(rules, most)
    states = {heap: plain_state(rules, told, heap) for heap in range(reach(rules) + 1, most + 1)}
    for heap in states:
        for ahead in range(reach(rules) + 1, heap):
            if states[ahead] == states[heap]:
                gain = plain_base(rules, told, heap) - plain_base(rules, told, ahead)
                return (ahead, heap - ahead, gain, told[:heap])
    return None


def plain_growing_fault(rules, told, paper):
    """By the words of point 40; told are values far enough."""
    begin, period, gain, _ = paper
    first, step = max(begin, reach(rules) + 1), math.lcm(period, turn(rules))
    fault = values_fault(Book(rules), values_by(paper, first + step - 1))
    if fault is not None:
        return fault
    if plain_state(rules, told, first) != plain_state(rules, told, first + step):
        return ("state",)
    more = plain_base(rules, told, first + step) - plain_base(rules, told, first)
    return None if more == gain * step // period else ("state",)


class StatesTest(Refusals, unittest.TestCase):
    def test_examples(self):
        self.assertEqual([state_at(Q, heap) for heap in (3, 4, 6)], [(0, [1], [0, 1]), (0, [], [-1, -1]), (0, [], [-1, -1])])
        self.assertEqual([base_at(Q, heap) for heap in (3, 4, 6)], [0, 2, 3])
        self.assertEqual(state_at(book=NIM, heap=2), (0, [], [-1]))
        self.assertEqual(base_at(book=NIM, heap=2), 2)
        self.assertEqual([base_at(ALL_OR_NOTHING, heap) for heap in (2, 9)], [1, 1])
        self.assertEqual(state_at(ALL_OR_NOTHING, 9), (0, [], [0]))

    def test_by_the_words(self):
        for rules in growing_rules(40, 51):
            book, told = Book(rules), plain_values(rules, 30)
            for heap in range(reach(rules) + 1, 31):
                self.assertEqual(base_at(book, heap), plain_base(rules, told, heap), (rules, heap))
                state = state_at(book, heap)
                self.assertEqual(state, plain_state(rules, told, heap), (rules, heap))
                self.assertEqual([type(part) for part in (state,) + state], [tuple, int, list, list])
                if base_at(book, heap) > 0:
                    self.assertEqual(state[1], [])

    def test_extras_above_base_nought(self):
        found = 0
        for rules in growing_rules(60, 52):
            told = plain_values(rules, 16)
            for heap in range(reach(rules) + 1, 17):
                found += len(plain_state(rules, told, heap)[1]) > 0
                self.assertEqual(state_at(Book(rules), heap)[1], plain_state(rules, told, heap)[1])
        self.assertGreater(found, 5)

    def test_to_four_hundred(self):
        book = Book([(3, None, "one", 0, 1), (1, 12, "one", 2, 5), (2, 2, "none", 0, 1), (1, 4, "one", 1, 6)])
        told = values(book, 400)
        rest, extras, last = state_at(book, 400)
        base = base_at(book, 400)
        self.assertEqual((rest, extras), (400 % 30, []))
        self.assertEqual(last, [max(told[400 - taken] - base, -1) for taken in range(1, 13)])

    def test_no_heaps(self):
        for thing in no_heaps(odd_things()) + [1, 2]:
            self.refuses(BadHeap, {"thing": thing}, base_at, Q, thing)
            self.refuses(BadHeap, {"thing": thing}, state_at, Q, thing)
        self.assertEqual(base_at(Q, 3), 0)
        twelve = Book([(1, None, "one", 0, 1), (2, 12, "none", 1, 2)])
        self.refuses(BadHeap, {"thing": 12}, base_at, twelve, 12)
        low = Book([(9, None, "one", 0, 1), (2, 3, "none", 1, 2)])
        self.refuses(BadHeap, {"thing": 9}, state_at, low, 9)
        self.assertEqual(state_at(low, 10)[0], 0)

    def test_told_ones_are_new(self):
        told = state_at(Q, 3)
        told[1].clear()
        told[2].append(4)
        self.assertEqual(state_at(Q, 3), (0, [1], [0, 1]))


class GrowingPaperTest(Refusals, unittest.TestCase):
    def test_examples(self):
        self.assertEqual(growing_paper(Q, 6), Q_PAPER)
        self.assertIsNone(growing_paper(Q, 5))
        self.assertEqual(growing_paper(book=NIM, most=9), (2, 1, 1, [0, 1, 2]))
        self.assertEqual(growing_paper(ALL_OR_NOTHING, 9), (2, 1, 0, [0, 1, 1]))

    def test_by_the_words(self):
        for rules in growing_rules(30, 53):
            for most in (1, 4, 9, 14, 25):
                self.assertEqual(growing_paper(Book(rules), most), plain_growing_paper(rules, most), (rules, most))

    def test_at_below_and_above_the_first_that_comes_again(self):
        tried = gains = 0
        for rules in growing_rules(60, 54):
            book = Book(rules)
            least = next((most for most in range(1, 120) if growing_paper(book, most) is not None), None)
            if least is None:
                continue
            paper = growing_paper(book, least)
            tried, gains = tried + 1, gains + (paper[2] > 0)
            self.assertEqual(paper[0] + paper[1], least)
            self.assertIsNone(growing_paper(book, least - 1))
            self.assertEqual(growing_paper(book, least + 40), paper)
            self.assertEqual(values_by(paper, 250), values(book, 250), rules)
            self.assertIsNone(growing_fault(book, paper))
        self.assertGreater(tried, 40)
        self.assertTrue(5 < gains < tried)

    def test_no_numbers(self):
        for thing in no_numbers(odd_things(), 1):
            self.refuses(BadNumber, {"thing": thing}, growing_paper, Q, thing)

    def test_told_ones_are_new(self):
        told = growing_paper(Q, 6)
        self.assertEqual([type(told), type(told[3])], [tuple, list])
        told[3].clear()
        self.assertEqual(growing_paper(Q, 6), Q_PAPER)

    def test_books_in_turns(self):
        want = [growing_paper(book, 40) for book in (Q, NIM)]
        for _ in range(3):
            self.assertEqual([growing_paper(book, 40) for book in (Q, NIM)], want)


class GrowingFaultTest(unittest.TestCase):
    def test_examples(self):
        self.assertIsNone(growing_fault(Q, Q_PAPER))
        self.assertIsNone(growing_fault(book=NIM, thing=[1, 1, 1, (0, 1)]))
        self.assertEqual(growing_fault(Q, (4, 2, 1, [0, 1, 0, 0, 2, 3])), ("lacks", 5, 2))
        self.assertEqual(growing_fault(Q, (4, 2, 1, [0, 1, 0, 1, 2, 2])), ("has", 3, [1]))
        self.assertEqual(growing_fault(Q, (4, 2, 0, Q_PAPER[3])), ("state",))
        self.assertEqual(growing_fault(Q, (4, 2, 2, Q_PAPER[3])), ("state",))
        self.assertEqual(growing_fault(Q, (4, 1, 0, Q_PAPER[3][:5])), ("state",))
        self.assertEqual(growing_fault(Q, (3, 1, 0, Q_PAPER[3][:4])), ("state",))

    def test_a_state_and_what_is_told_below(self):
        """Q's states of 4 and 5 are unlike; what is told below 5 alone is judged by its values."""
        self.assertNotEqual(state_at(Q, 4), state_at(Q, 5))
        self.assertEqual(growing_fault(Q, (4, 1, 0, [0, 1, 0, 0, 2])), ("state",))
        self.assertEqual(growing_fault(Q, (2, 1, 0, [0, 1, 0])), ("state",))
        self.assertEqual(growing_fault(Q, (1, 1, 0, [0, 1])), ("lacks", 2, 0))

    def test_no_papers(self):
        for thing in odd_things() + [(4, 2, -1, Q_PAPER[3]), (4, 3, 1, Q_PAPER[3])]:
            if not is_paper(thing):
                self.assertEqual(growing_fault(Q, thing), ("form",))

    def test_by_the_words(self):
        rng = random.Random(55)
        kinds = {}
        for rules in growing_rules(50, 56):
            book, told = Book(rules), plain_values(rules, 90)
            for _ in range(25):
                begin, period = rng.randint(1, 10), rng.randint(1, 8)
                gain = rng.choice([0, 1, 2, told[begin + period] - told[begin]])
                if max(begin, reach(rules) + 1) + math.lcm(period, turn(rules)) > 90 or gain < 0:
                    continue
                row = told[:begin + period]
                if rng.random() < 0.3:
                    row[rng.randrange(1, begin + period)] = rng.randint(0, 6)
                paper = (begin, period, gain, row)
                fault = growing_fault(book, paper)
                self.assertEqual(fault, plain_growing_fault(rules, told, paper), (rules, paper))
                kinds[None if fault is None else fault[0]] = True
                if fault is None:
                    self.assertEqual(values_by(paper, 250), values(book, 250))
                elif fault == ("state",):
                    self.assertEqual(values_by(paper, begin + period - 1), told[:begin + period])
        self.assertEqual(set(kinds), {None, "has", "lacks", "state"})

    def test_greater_ones(self):
        for rules in growing_rules(30, 57):
            book = Book(rules)
            paper = growing_paper(book, 60)
            if paper is None:
                continue
            for more, times in itertools.product((0, 1, 5), (1, 2, 3)):
                longer = led_paper(paper, paper[0] + more, paper[1] * times)
                self.assertIsNone(growing_fault(book, longer))
                self.assertIsNone(growing_fault(book, list(longer[:3]) + [tuple(longer[3])]))
                for gain in (longer[2] + 1, longer[2] + 5, max(longer[2] - 1, 0)):
                    if gain != longer[2]:
                        fault = growing_fault(book, (longer[0], longer[1], gain, longer[3]))
                        self.assertIsNotNone(fault)
                for at in range(1, len(longer[3]), 3):
                    row = list(longer[3])
                    row[at] += 1
                    self.assertEqual(growing_fault(book, longer[:3] + (row,)), values_fault(book, row))

    def test_short_ones(self):
        """A paper of the values that is shorter than one shown by a state is right just if its states are alike."""
        for rules in growing_rules(30, 58):
            book, told = Book(rules), plain_values(rules, 80)
            for begin, period in itertools.product(range(1, 6), range(1, 5)):
                if max(begin, reach(rules) + 1) + math.lcm(period, turn(rules)) <= 80:
                    for gain in range(3):
                        paper = (begin, period, gain, told[:begin + period])
                        self.assertEqual(growing_fault(book, paper), plain_growing_fault(rules, told, paper))

    def test_four_hundred_values(self):
        began = time.monotonic()
        book = Book([(1, None, "none", 0, 1), (1, 1, "none", 3, 4), (1, 1, "none", 4, 5), (2, 2, "none", 5, 6)])
        self.assertIsNone(growing_fault(book, (3, 397, 0, [0] + [1] * 399)))
        self.assertIsNone(growing_fault(NIM, (3, 397, 397, list(range(400)))))
        self.assertEqual(growing_fault(NIM, (3, 397, 398, list(range(400)))), ("state",))
        self.assertLess(time.monotonic() - began, 20)

    def test_told_options_are_new(self):
        paper = (4, 2, 1, [0, 1, 0, 1, 2, 2])
        growing_fault(Q, paper)[2].append(7)
        self.assertEqual(growing_fault(Q, paper), ("has", 3, [1]))
        self.assertEqual(paper, (4, 2, 1, [0, 1, 0, 1, 2, 2]))


class RefusalsTest(Refusals, unittest.TestCase):
    def test_books(self):
        works = (base_at, state_at, growing_paper, growing_fault)
        for work, thing in itertools.product(works, odd_things()):
            if not isinstance(thing, Book):
                self.refuses(BadBook, {"thing": thing}, work, thing, None)
            for book in (P, R, N, EMPTY):
                self.refuses(NotGrowing, {}, work, book, thing)
        self.assertEqual(growing_fault(Q, R_PAPER), plain_growing_fault(Q.rules(), plain_values(Q.rules(), 60), R_PAPER))


if __name__ == "__main__":
    unittest.main()
