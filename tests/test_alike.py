"""Points 62, 66 and 70: books alike, or the least heap that parts them."""

import itertools
import random
import time
import unittest

from takeandsplit.alike import alike_lots, parted, telling_heaps
from takeandsplit.books import Book
from takeandsplit.engine import Engine
from takeandsplit.errors import BadBook, BadPairs, NotRight
from takeandsplit.houses import House
from takeandsplit.looks import found_paper
from takeandsplit.papers import values_by
from takeandsplit.takings import grows
from takeandsplit.values import values
from tests.alikes import (
    CHOSEN, LATE_FEWER, LATE_MORE, T, T_PAPER, U, U_PAPER, is_right_plainly, longer, many_pairs, written_otherwise, wrong_papers,
)
from tests.engines import PAPERS, SPLITTING, right_paper
from tests.plainplay import PlainPlays, Refusals
from tests.samples import EMPTY, P, R, R_PAPER, odd_things, plain_values

EMPTY_PAPER = (1, 1, 0, [0, 0])


def plain_parted(one, other, most):
    for heap, (mine, theirs) in enumerate(zip(plain_values(one.rules(), most), plain_values(other.rules(), most))):
        if mine != theirs:
            return (heap, mine, theirs)
    return None


class PartedTest(Refusals, unittest.TestCase):
    def test_examples(self):
        self.assertEqual(parted(book=T, paper=T_PAPER, other=U, twin=U_PAPER), (2, 2, 0))
        self.assertEqual(parted(U, U_PAPER, T, T_PAPER), (2, 0, 2))
        self.assertIsNone(parted(T, T_PAPER, T, T_PAPER))

    def test_by_the_plain_rule(self):
        pairs = many_pairs(60, 401)
        rng = random.Random(402)
        greatest = 0
        for _ in range(150):
            (book, paper), (other, twin) = rng.choice(pairs), rng.choice(pairs)
            want = plain_parted(book, other, 40)
            told = parted(book, paper, other, twin)
            if want is not None:
                self.assertEqual(told, want)
                self.assertEqual([type(told)] + [type(part) for part in told], [tuple, int, int, int])
                greatest = max(greatest, want[0])
            else:
                self.assertEqual(values_by(paper, 900) == values_by(twin, 900), told is None)
        self.assertGreater(greatest, 4)

    def test_either_way_about(self):
        for (book, paper), (other, twin) in itertools.product(CHOSEN, repeat=2):
            told, back = parted(book, paper, other, twin), parted(other, twin, book, paper)
            self.assertEqual(told is None, book == other)
            self.assertEqual(back, told and (told[0], told[2], told[1]))

    def test_first_heap_and_late_ones(self):
        self.assertEqual(parted(EMPTY, EMPTY_PAPER, U, U_PAPER), (1, 0, 1))
        late = [(rules + [rule], rules, shown[0]) for rules, rule, shown in LATE_MORE]
        late += [(rules, [known for known in rules if known != rule], shown[0]) for rules, rule, shown in LATE_FEWER]
        found = 0
        for rules, others, heap in late:
            book, other = Book(rules), Book(others)
            paper, twin = right_paper(book, 400), right_paper(other, 400)
            if paper is None or twin is None:
                continue
            found += 1
            mine, theirs = values(book, heap)[heap], values(other, heap)[heap]
            self.assertEqual(parted(book, paper, other, twin), (heap, mine, theirs))
            self.assertEqual(parted(other, longer(twin, 30, 3), book, longer(paper, 7, 2)), (heap, theirs, mine))
        self.assertGreater(found, 5)

    def test_written_otherwise(self):
        rng = random.Random(403)
        for book, paper in many_pairs(60, 404):
            other = Book(written_otherwise(rng, book.rules()))
            twin = right_paper(other, 300)
            if twin is not None:
                self.assertIsNone(parted(book, paper, other, twin))
                self.assertIsNone(parted(book, longer(paper, 9, 4), other, longer(twin, 2, 3)))
                self.assertIsNone(parted(other, longer(twin, 5, 1), book, longer(paper, 0, 5)))

    def test_later_begins_and_longer_periods_part_alike(self):
        self.assertEqual(parted(T, longer(T_PAPER, 20, 5), U, longer(U_PAPER, 33, 7)), (2, 2, 0))
        self.assertIsNone(parted(T, longer(T_PAPER, 20, 5), T, longer(T_PAPER, 33, 7)))

    def test_one_heap_beside_another(self):
        """A heap by the one book beside the same heap by the other one is lost just if the values are the same."""
        rng = random.Random(405)
        pairs = many_pairs(20, 406)
        for _ in range(25):
            (book, paper), (other, twin) = rng.choice(pairs), rng.choice(pairs)
            engine = Engine(House([("a", book), ("b", other)]), {"a": paper, "b": twin})
            told = parted(book, paper, other, twin)
            plays = PlainPlays(engine.house())
            for heap in range(1, 8):
                position = [("a", heap), ("b", heap)]
                lost = values(book, heap)[heap] == values(other, heap)[heap]
                self.assertEqual(engine.wins(position), not lost)
                self.assertEqual(plays.under(position)[0], not lost)
                if told is None or heap < told[0]:
                    self.assertTrue(lost)

    def test_refusals_in_their_order(self):
        for thing in odd_things():
            if not isinstance(thing, Book):
                self.refuses(BadBook, {"thing": thing}, parted, thing, None, None, None)
                self.refuses(BadBook, {"thing": thing}, parted, P, PAPERS["p"], thing, None)
        for thing in wrong_papers():
            self.refuses(NotRight, {"thing": thing}, parted, P, thing, None, None)
            self.refuses(NotRight, {"thing": thing}, parted, P, thing, R, thing)
            self.refuses(NotRight, {"thing": thing}, parted, R, R_PAPER, P, thing)
        both = ([], {})
        self.refuses(NotRight, {"thing": both[0]}, parted, P, both[0], P, both[1])
        self.refuses(NotRight, {"thing": both[1]}, parted, P, PAPERS["p"], P, both[1])

    def test_right_ones_pass(self):
        begin, period, gain, told = PAPERS["p"]
        self.assertIsNone(parted(P, [begin, period, gain, tuple(told)], P, PAPERS["p"]))


def plain_lots(pairs):
    rows = [tuple(values_by(paper, 1200)) for _, paper in pairs]
    return [[index for index, row in enumerate(rows) if row == first] for at, first in enumerate(rows) if first not in rows[:at]]


class LotsTest(Refusals, unittest.TestCase):
    def many(self, seed):
        """Lists of pairs, with books that stand twice and ones written otherwise."""
        rng = random.Random(seed)
        pairs = many_pairs(40, seed)
        for size in [0, 1, 2, 3, 5, 12, 12, 12]:
            row = [rng.choice(pairs) for _ in range(size)]
            for at in range(size):
                if rng.random() < 0.5:
                    book, paper = row[rng.randrange(size)]
                    other = Book(written_otherwise(rng, book.rules()))
                    twin = right_paper(other, 300)
                    row[at] = (other, twin) if twin is not None and rng.random() < 0.6 else (book, longer(paper, 3, 2))
            yield row

    def test_by_their_values(self):
        for seed in range(411, 416):
            for pairs in self.many(seed):
                lots = alike_lots(pairs)
                self.assertEqual(lots, plain_lots(pairs))
                heaps = telling_heaps(pairs)
                parts = [parted(*one, *other) for one, other in itertools.combinations(pairs, 2)]
                self.assertEqual(heaps, sorted({part[0] for part in parts if part is not None}))
                # Values at these heaps alone tell which are alike.
                rows = [[values_by(paper, heap)[heap] for heap in heaps] for _, paper in pairs]
                for (one, mine), (two, theirs) in itertools.combinations(enumerate(rows), 2):
                    self.assertEqual(mine == theirs, any(one in lot and two in lot for lot in lots))

    def test_few(self):
        self.assertEqual((alike_lots([]), telling_heaps(())), ([], []))
        self.assertEqual((alike_lots([(T, T_PAPER)]), telling_heaps([(T, T_PAPER)])), ([[0]], []))
        twice = [[T, T_PAPER], (U, U_PAPER), (T, list(T_PAPER)), (T, T_PAPER)]
        self.assertEqual(alike_lots(pairs=twice), [[0, 2, 3], [1]])
        self.assertEqual(telling_heaps(pairs=twice), [2])
        self.assertEqual(telling_heaps(CHOSEN), sorted({part[0] for part in (
            parted(*one, *other) for one, other in itertools.combinations(CHOSEN, 2))}))

    def test_told_ones_are_new(self):
        pairs = [(T, T_PAPER), (U, U_PAPER)]
        told = alike_lots(pairs)
        told[0].append(7)
        telling_heaps(pairs).clear()
        self.assertEqual((alike_lots(pairs), telling_heaps(pairs)), ([[0], [1]], [2]))

    def test_refusals(self):
        for work in (alike_lots, telling_heaps):
            for thing in odd_things():
                if not isinstance(thing, (list, tuple)):
                    self.refuses(BadPairs, {"index": 0}, work, thing)
                for at in (0, 1, 5, 11):
                    row = [(T, T_PAPER)] * at + [thing] + [None] * (11 - at)
                    self.refuses(BadPairs, {"index": at}, work, row)
                    if not is_right_plainly(P, thing):
                        self.refuses(BadPairs, {"index": at}, work, row[:at] + [(P, thing)] + row[at + 1:])
                    if not isinstance(thing, Book):
                        self.refuses(BadPairs, {"index": at}, work, row[:at] + [(thing, T_PAPER)])
            self.refuses(BadPairs, {"index": 1}, work, [(T, T_PAPER), (T, U_PAPER)])
            self.refuses(BadPairs, {"index": 0}, work, [(T, T_PAPER, 0)])

    def test_to_the_limits(self):
        began = time.monotonic()
        rows = [(book, found_paper(book, 200)) for book in SPLITTING]
        rows = [(book, paper) for book, paper in rows if paper is not None]
        rows += [(book, paper) for book, paper in many_pairs(40, 417) if not grows(book)][:12 - len(rows)]
        self.assertEqual(len(rows), 12)
        alike_lots(rows)
        telling_heaps(rows)
        for one, other in itertools.combinations(rows, 2):
            parted(*one, *other)
        self.assertLess(time.monotonic() - began, 20)


if __name__ == "__main__":
    unittest.main()
