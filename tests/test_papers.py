"""Points 25, 30, 31 and 33: papers, shorter ones, longer ones, and unlike ones."""

import itertools
import math
import random
import unittest

from takeandsplit.errors import BadHeap, BadNumber, BadPaper, BadPeriod
from takeandsplit.papers import is_paper, least_paper, led_paper, papers_part, value_at, values_by
from tests.samples import MOST_HEAP, Q_PAPER, R_PAPER, odd_things
from tests.test_papertexts import BAD_PAPERS

BEGINS, PERIODS = range(1, 4), range(1, 5)


def plain_value(paper, number):
    """What a paper tells, step by step."""
    begin, period, gain, values = paper
    more = 0
    while number >= begin + period:
        number -= period
        more += gain
    return values[number] + more


def random_papers(count, seed):
    rng = random.Random(seed)
    for _ in range(count):
        begin, period = rng.randint(1, 5), rng.randint(1, 8)
        base = [rng.randint(0, 1) for _ in range(rng.randint(1, 4))]
        step = rng.randint(0, 2)
        told = [0] + [base[at % len(base)] + step * at for at in range(1, begin + period)]
        for _ in range(rng.choice([0, 0, 1, 2])):
            told[rng.randrange(1, len(told))] += 1
        yield (begin, period, rng.choice([step * period, step * period, 0, 1, 3]), told)


def small_papers():
    """Papers with small numbers, all of some kinds."""
    for begin, period in itertools.product((1, 2), (1, 2, 3)):
        for gain in (0, 1, 2):
            for told in itertools.product((0, 1, 2), repeat=begin + period - 1):
                yield (begin, period, gain, [0] + list(told))


def tells_alike(paper, other, end):
    return all(plain_value(paper, number) == plain_value(other, number) for number in range(end))


class PapersTest(unittest.TestCase):
    def test_is_paper(self):
        for paper in (R_PAPER, Q_PAPER, (1, 1, 0, (0, 10 ** 30)), [1, 1, 5, [0, 0]]):
            self.assertIs(is_paper(paper), True)
            self.assertIs(is_paper(thing=list(paper)), True)
        for thing in BAD_PAPERS + odd_things():
            if thing not in (R_PAPER, Q_PAPER, list(R_PAPER)):
                self.assertIs(is_paper(thing), False)

    def test_no_paper(self):
        works = [lambda thing: value_at(thing, None), lambda thing: values_by(thing, None), least_paper,
                 lambda thing: led_paper(thing, None, None), lambda thing: papers_part(thing, None),
                 lambda thing: papers_part(R_PAPER, thing)]
        for thing in BAD_PAPERS + odd_things():
            if thing in (R_PAPER, Q_PAPER, list(R_PAPER)):
                continue
            for work in works:
                with self.assertRaises(BadPaper) as caught:
                    work(thing)
                self.assertIs(caught.exception.thing, thing)

    def test_values_told(self):
        for paper in [R_PAPER, Q_PAPER] + list(random_papers(60, 1)):
            want = [plain_value(paper, number) for number in range(60)]
            for most in (0, 1, 5, 59):
                self.assertEqual(values_by(paper, most), want[:most + 1])
            self.assertEqual([value_at(paper, heap) for heap in range(1, 60)], want[1:])
            self.assertEqual(values_by(paper=list(paper), most=7), want[:8])

    def test_great_heaps(self):
        self.assertEqual(value_at(R_PAPER, MOST_HEAP), R_PAPER[3][1 + (MOST_HEAP - 1) % 5])
        self.assertEqual(value_at(Q_PAPER, MOST_HEAP), MOST_HEAP // 2)
        self.assertEqual(value_at(Q_PAPER, 7), 3)
        self.assertEqual(value_at(paper=Q_PAPER, heap=9), 4)

    def test_no_heaps_no_numbers(self):
        for thing in odd_things():
            if type(thing) is not int or not 1 <= thing <= MOST_HEAP:
                with self.assertRaises(BadHeap) as caught:
                    value_at(R_PAPER, thing)
                self.assertIs(caught.exception.thing, thing)
            if type(thing) is not int or thing < 0:
                with self.assertRaises(BadNumber) as caught:
                    values_by(R_PAPER, thing)
                self.assertIs(caught.exception.thing, thing)

    def test_told_lists_are_new(self):
        paper = (1, 1, 0, [0, 3])
        for told in (values_by(paper, 1), least_paper(paper)[3], led_paper(paper, 1, 1)[3]):
            self.assertIsNot(told, paper[3])
            told.append(9)
        self.assertEqual(paper, (1, 1, 0, [0, 3]))
        self.assertEqual(values_by(paper, 1), [0, 3])


class LedTest(unittest.TestCase):
    def test_led_on(self):
        for paper in [R_PAPER, Q_PAPER] + list(random_papers(40, 2)):
            for more, times in itertools.product((0, 1, 4, 9), (1, 2, 3)):
                begin, period = paper[0] + more, paper[1] * times
                led = led_paper(list(paper), begin, period)
                self.assertEqual(led[:3], (begin, period, paper[2] * times))
                self.assertEqual([type(led), type(led[3])], [tuple, list])
                self.assertTrue(is_paper(led))
                self.assertTrue(tells_alike(paper, led, 80))
                self.assertIsNone(papers_part(paper, led))
                self.assertEqual(least_paper(led), least_paper(paper))
        self.assertEqual(led_paper(paper=R_PAPER, begin=1, period=5), R_PAPER)
        self.assertEqual(len(led_paper(R_PAPER, 3995, 4000)[3]), 7995)

    def test_refusals(self):
        for thing in odd_things():
            if type(thing) is not int or thing < 4:
                with self.assertRaises(BadNumber) as caught:
                    led_paper(Q_PAPER, thing, None)
                self.assertIs(caught.exception.thing, thing)
            if type(thing) is not int or thing < 1 or thing % 2:
                with self.assertRaises(BadPeriod) as caught:
                    led_paper(Q_PAPER, 4, thing)
                self.assertIs(caught.exception.thing, thing)
        for period in (0, 1, 3, 7, -2, True):
            with self.assertRaises(BadPeriod):
                led_paper(Q_PAPER, 5, period)


class LeastTest(unittest.TestCase):
    def plain_least(self, paper):
        """The least paper, by trying all lesser ones in turn."""
        end = 60
        want = [plain_value(paper, number) for number in range(end)]
        for period in range(1, paper[1] + 1):
            for begin in range(1, paper[0] + 2 * paper[1] + 1):
                gain = want[begin + period] - want[begin]
                found = (begin, period, gain, want[:begin + period])
                if is_paper(found) and tells_alike(found, paper, end):
                    return found
        return None

    def test_against_all_lesser_ones(self):
        papers = list(small_papers()) + list(random_papers(400, 3))
        for paper in papers:
            self.assertEqual(least_paper(paper), self.plain_least(paper), paper)

    def test_examples(self):
        self.assertEqual(least_paper(paper=R_PAPER), R_PAPER)
        self.assertEqual(least_paper(Q_PAPER), Q_PAPER)
        self.assertEqual(least_paper((3, 4, 0, [0, 1, 0, 1, 0, 1, 0])), (1, 2, 0, [0, 1, 0]))
        self.assertEqual(least_paper([3, 4, 4, (0, 1, 2, 3, 4, 5, 6)]), (1, 1, 1, [0, 1]))
        self.assertEqual(least_paper((3, 2, 1, [0, 0, 0, 0, 1])), (2, 2, 1, [0, 0, 0, 0]))
        self.assertEqual(least_paper((1, 4, 2, [0, 0, 0, 1, 1])), (1, 2, 1, [0, 0, 0]))
        self.assertEqual(least_paper((1, 1, 0, [0, 0])), (1, 1, 0, [0, 0]))


class PartTest(unittest.TestCase):
    def plain_part(self, paper, other):
        """The least number with unlike values, looked for as far as point 31 says."""
        end = max(paper[0], other[0]) + 2 * math.lcm(paper[1], other[1])
        return next((number for number in range(end) if plain_value(paper, number) != plain_value(other, number)), None)

    def test_against_the_words(self):
        papers = list(random_papers(120, 4)) + [R_PAPER, Q_PAPER]
        for paper, other in itertools.product(papers, repeat=2):
            self.assertEqual(papers_part(paper, other), self.plain_part(paper, other), (paper, other))

    def test_small_ones(self):
        papers = list(small_papers())[::5]
        for paper, other in itertools.product(papers, repeat=2):
            self.assertEqual(papers_part(paper, other), self.plain_part(paper, other), (paper, other))

    def test_late_ones(self):
        for first, second in [(2, 3), (3, 5), (4, 6), (5, 8), (6, 9), (7, 7), (1, 4)]:
            size = first + second - math.gcd(first, second)
            names = list(range(size))
            for at in range(size):
                for step in (first, second):
                    if at + step < size:
                        old, new = names[at + step], names[at]
                        names = [new if name == old else name for name in names]
            told = [0] + [3 + names[at] for at in range(size)]
            paper, other = (1, first, 0, told[:1 + first]), (1, second, 0, told[:1 + second])
            self.assertEqual(papers_part(paper, other), self.plain_part(paper, other))

    def test_one_number_otherwise(self):
        for at in range(1, 6):
            told = list(R_PAPER[3])
            told[at] += 1
            self.assertEqual(papers_part(R_PAPER, (1, 5, 0, told)), at)
            self.assertEqual(papers_part(paper=(1, 5, 0, told), other=R_PAPER), at)
        self.assertEqual(papers_part(R_PAPER, (1, 5, 1, R_PAPER[3])), 6)
        self.assertIsNone(papers_part(list(R_PAPER), led_paper(R_PAPER, 30, 4000)))

    def test_long_ones(self):
        one = led_paper((1, 1, 0, [0, 1]), 1, 3999)
        two = led_paper((1, 1, 0, [0, 1]), 1, 4000)
        self.assertIsNone(papers_part(one, two))
        two[3][4000] = 2
        self.assertEqual(papers_part(one, two), 4000)


if __name__ == "__main__":
    unittest.main()
