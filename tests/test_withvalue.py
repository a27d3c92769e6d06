"""Points 32 and 33: heaps with a value, however great."""

import random
import unittest

from takeandsplit.errors import BadHeap, BadNumber, BadPaper
from takeandsplit.looks import found_paper
from takeandsplit.papers import is_paper, led_paper, value_at
from takeandsplit.withvalue import count_with, heap_with, is_endless, next_with
from tests.plainplay import Refusals, no_heaps, no_numbers
from tests.samples import MOST_HEAP, P, Q_PAPER, R_PAPER, odd_things
from tests.test_papers import plain_value, random_papers

HEAD_PAPER = (4, 3, 0, [0, 7, 1, 7, 1, 2, 1])
GAIN_PAPER = (3, 3, 2, [0, 4, 5, 4, 0, 5])


def all_papers():
    return [R_PAPER, Q_PAPER, HEAD_PAPER, GAIN_PAPER, found_paper(P, 60)] + list(random_papers(80, 21))


class SmallTest(unittest.TestCase):
    def test_against_going_through(self):
        for paper in all_papers():
            told = [plain_value(paper, heap) for heap in range(120)]
            for value in range(9):
                heaps = [heap for heap in range(1, 120) if told[heap] == value]
                for most in (0, 1, 2, 3, 5, 8, 30, 60):
                    self.assertEqual(count_with(paper, value, most), len([heap for heap in heaps if heap <= most]))
                sure = [heap for heap in heaps if heap <= 60]
                self.assertEqual([heap_with(paper, value, at) for at in range(len(sure))], sure)
                for heap in range(1, 61):
                    later = [other for other in sure if other >= heap]
                    if later:
                        self.assertEqual(next_with(paper, value, heap), later[0])

    def test_without_end_or_not(self):
        for paper in all_papers():
            begin, period, gain, told = paper
            for value in range(9):
                endless = gain == 0 and value in told[begin:]
                self.assertIs(is_endless(paper, value), endless)
                # A value stands once of each rest at most where there is a gain, ahead of the heaps that gained more.
                last = 9 * period + begin + period
                heaps = [heap for heap in range(1, last) if plain_value(paper, heap) == value]
                if not endless:
                    self.assertEqual(count_with(paper, value, MOST_HEAP), len(heaps))
                    self.assertIsNone(heap_with(paper, value, len(heaps)))
                    self.assertIsNone(next_with(paper, value, heaps[-1] + 1 if heaps else 1))
                    self.assertIsNone(next_with(paper, value, MOST_HEAP))

    def test_examples(self):
        self.assertEqual(count_with(R_PAPER, 0, 10), 4)
        self.assertEqual([heap_with(R_PAPER, 0, number) for number in range(4)], [2, 3, 7, 8])
        self.assertEqual(heap_with(R_PAPER, 2, 1), 9)
        self.assertEqual(count_with(paper=R_PAPER, value=2, most=8), 1)
        self.assertEqual(heap_with(paper=list(R_PAPER), value=2, number=0), 4)
        self.assertEqual(next_with(paper=R_PAPER, value=2, heap=5), 9)
        self.assertIs(is_endless(paper=R_PAPER, value=2), True)
        self.assertIs(is_endless(R_PAPER, 3), False)

    def test_no_heap_is_not_counted(self):
        paper = (1, 1, 0, [0, 1])
        self.assertEqual(count_with(paper, 0, 9), 0)
        self.assertIsNone(heap_with(paper, 0, 0))
        self.assertIsNone(next_with(paper, 0, 1))
        self.assertIs(is_endless(paper, 0), False)

    def test_early_ones(self):
        self.assertEqual([heap_with(HEAD_PAPER, 7, number) for number in range(3)], [1, 3, None])
        self.assertEqual([next_with(HEAD_PAPER, 7, heap) for heap in (1, 2, 3, 4)], [1, 3, 3, None])
        self.assertEqual([heap_with(HEAD_PAPER, 1, number) for number in range(5)], [2, 4, 6, 7, 9])
        self.assertIs(is_endless(HEAD_PAPER, 7), False)

    def test_with_a_gain(self):
        told = [plain_value(GAIN_PAPER, heap) for heap in range(1, 13)]
        self.assertEqual(told, [4, 5, 4, 0, 5, 6, 2, 7, 8, 4, 9, 10])
        self.assertEqual([heap_with(GAIN_PAPER, 4, number) for number in range(4)], [1, 3, 10, None])
        self.assertEqual(next_with(GAIN_PAPER, 6, 7), 13)
        self.assertEqual([value_at(GAIN_PAPER, heap) for heap in (6, 13)], [6, 6])
        self.assertIsNone(next_with(GAIN_PAPER, 0, 5))


class GreatTest(unittest.TestCase):
    def test_to_the_greatest_heap(self):
        for paper in all_papers():
            for value in range(6):
                many = count_with(paper, value, MOST_HEAP)
                self.assertEqual(many - count_with(paper, value, MOST_HEAP - 1), value_at(paper, MOST_HEAP) == value)
                for number in {0, many // 3, many - 1} if many else ():
                    heap = heap_with(paper, value, number)
                    self.assertEqual(value_at(paper, heap), value)
                    self.assertEqual(count_with(paper, value, heap), number + 1)
                    self.assertEqual(count_with(paper, value, heap - 1), number)
                    self.assertEqual(next_with(paper, value, heap), heap)
                    if number:
                        self.assertEqual(next_with(paper, value, heap_with(paper, value, number - 1) + 1), heap)

    def test_counts(self):
        self.assertEqual(count_with(R_PAPER, 0, MOST_HEAP), 4 * 10 ** 17)
        self.assertEqual(count_with(R_PAPER, 2, MOST_HEAP), 2 * 10 ** 17)
        self.assertEqual(heap_with(R_PAPER, 2, 2 * 10 ** 17 - 1), MOST_HEAP - 1)
        self.assertEqual(heap_with(Q_PAPER, 10 ** 17, 1), 2 * 10 ** 17 + 1)

    def test_beyond_most(self):
        self.assertEqual(next_with(R_PAPER, 2, MOST_HEAP), MOST_HEAP + 4)
        self.assertEqual(heap_with(R_PAPER, 2, 2 * 10 ** 17), MOST_HEAP + 4)
        self.assertEqual(heap_with(R_PAPER, 1, 10 ** 30), 1 + 5 * 10 ** 30 // 2)
        self.assertEqual(next_with(Q_PAPER, 5 * 10 ** 17 + 7, MOST_HEAP), MOST_HEAP + 14)
        self.assertEqual(next_with(Q_PAPER, 10 ** 18, MOST_HEAP), 2 * 10 ** 18)

    def test_longer_papers_tell_the_same(self):
        rng = random.Random(2)
        for paper in [R_PAPER, Q_PAPER, HEAD_PAPER, GAIN_PAPER]:
            longer = led_paper(paper, paper[0] + 37, paper[1] * 40)
            for _ in range(60):
                value, number, heap = rng.randint(0, 9), rng.randint(0, 300), rng.randint(1, 600)
                for work, last in [(count_with, heap), (heap_with, number), (next_with, heap), (count_with, MOST_HEAP)]:
                    self.assertEqual(work(longer, value, last), work(paper, value, last))
                self.assertEqual(is_endless(longer, value), is_endless(paper, value))


class RefusalsTest(Refusals, unittest.TestCase):
    def test_in_their_order(self):
        for thing in odd_things():
            if not is_paper(thing):
                for work in (count_with, heap_with, next_with):
                    self.refuses(BadPaper, {"thing": thing}, work, thing, None, None)
                self.refuses(BadPaper, {"thing": thing}, is_endless, thing, None)
        for thing in no_numbers(odd_things()):
            for work in (count_with, heap_with, next_with):
                self.refuses(BadNumber, {"thing": thing}, work, R_PAPER, thing, None)
            self.refuses(BadNumber, {"thing": thing}, is_endless, R_PAPER, thing)
            self.refuses(BadNumber, {"thing": thing}, count_with, R_PAPER, 0, thing)
            self.refuses(BadNumber, {"thing": thing}, heap_with, R_PAPER, 0, thing)
        for thing in no_heaps(odd_things()):
            self.refuses(BadHeap, {"thing": thing}, next_with, R_PAPER, 0, thing)


if __name__ == "__main__":
    unittest.main()
