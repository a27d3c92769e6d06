"""Points 50 and 52: how long small positions last."""

import itertools
import random
import time
import unittest

from takeandsplit.books import Book
from takeandsplit.errors import BadHouse, BadPosition
from takeandsplit.houses import House
from takeandsplit.lines import behind, line_fault
from takeandsplit.moves import count_moves, moved
from takeandsplit.searching import wins_small
from takeandsplit.turns import turns, turns_line
from tests.engines import PQR
from tests.plainplay import PlainPlays, Refusals, no_heaps, random_position
from tests.samples import EMPTY, HOUSE, odd_things
from tests.test_searching import FULL, houses


class TurnsTest(unittest.TestCase):
    def same(self, house, position, plain):
        want = plain.under(position)[4]
        self.assertEqual(turns(house, position), want, position)
        self.assertEqual(want % 2 == 1, wins_small(house, position))
        line = turns_line(house, position)
        self.assertEqual(len(line), want)
        self.assertIsNone(line_fault(house, position, line))
        self.assertEqual(count_moves(house, behind(house, position, line)), 0)
        # Each move of the line leaves one turn less, and no won position where a lost one can be left.
        now = position
        for index, move in enumerate(line):
            now = moved(house, now, move)
            self.assertEqual(plain.under(now)[4], want - index - 1)

    def test_against_all_plays(self):
        rng = random.Random(111)
        for house in [HOUSE] * 3 + list(houses(112)):
            plain = PlainPlays(house)
            names = [name for name, _ in house.books()]
            for _ in range(12):
                self.same(house, random_position(rng, names, 9), plain)

    def test_one_heap(self):
        for house in [HOUSE] + list(houses(113))[:4]:
            plain = PlainPlays(house)
            for name, _ in house.books():
                for heap in range(1, 12):
                    self.same(house, [(name, heap)], plain)

    def test_examples(self):
        self.assertEqual(turns(PQR, [("p", 7), ("r", 4)]), 8)
        self.assertEqual(turns(house=PQR, position=[("r", 1)]), 1)
        self.assertEqual(turns_line(house=PQR, position=[("r", 1)]), [("r", 1, [])])
        for house, position in [(PQR, []), (PQR, [("r", 2), ("p", 1)]), (House([]), ()), (House([("a", EMPTY)]), [("a", 5)])]:
            self.assertEqual(turns(house, position), 0)
            self.assertEqual(turns_line(house, position), [])

    def test_order_and_kinds_of_rows(self):
        position = [("p", 3), ("q", 2), ("p", 1), ("r", 4)]
        want = turns(HOUSE, position)
        for row in itertools.permutations(position):
            passed = [list(pair) for pair in row]
            self.assertEqual(turns(HOUSE, tuple(passed)), want)
            line = turns_line(HOUSE, passed)
            self.assertIsNone(line_fault(HOUSE, position, line))
            self.assertEqual(len(line), want)
            self.assertEqual(passed, [list(pair) for pair in row])

    def test_told_ones_are_new_and_the_same_each_time(self):
        position = [("p", 7), ("r", 4)]
        line = turns_line(PQR, position)
        self.assertEqual([type(part) for part in (line, line[0]) + line[0]], [list, tuple, str, int, list])
        self.assertEqual(len({id(move[2]) for move in line}), len(line))
        want = [(name, heap, list(option)) for name, heap, option in line]
        for move in line:
            move[2].append(5)
        line.clear()
        self.assertEqual(turns_line(PQR, position), want)
        self.assertEqual(turns_line(PQR, (["p", 7], ["r", 4])), want)

    def test_to_the_limits(self):
        began = time.monotonic()
        names = ["a", "b", "c", "d", "e", "f", "g", "h"]
        house = House([(name, FULL) for name in names])
        for heaps in [(14,), (5, 5, 4), (2, 2, 2, 2, 2, 2, 1, 1), (3, 3, 2, 2, 1, 1, 1, 1), (4, 4, 3, 3), (7, 7)]:
            position = list(zip(names, heaps))
            many = turns(house, position)
            self.assertEqual(many % 2 == 1, wins_small(house, position))
            line = turns_line(house, position)
            self.assertEqual(len(line), many)
            self.assertIsNone(line_fault(house, position, line))
        self.assertEqual(turns(house, [("a", 1)] * 14), 14)
        self.assertLess(time.monotonic() - began, 20)

    def test_greater_ones_are_not_refused(self):
        single = House([("a", Book([(1, 1, "one", 0, 1), (1, 1, "none", 0, 1)]))])
        self.assertEqual(turns(single, [("a", 600)]), 600)
        self.assertEqual(len(turns_line(single, [("a", 601)])), 601)


class RefusalsTest(Refusals, unittest.TestCase):
    def test_in_their_order(self):
        for work, thing in itertools.product((turns, turns_line), odd_things()):
            if not isinstance(thing, House):
                self.refuses(BadHouse, {"thing": thing}, work, thing, None)
            if not isinstance(thing, (list, tuple)):
                self.refuses(BadPosition, {"index": 0}, work, HOUSE, thing)
            if thing != ["p", 1]:
                self.refuses(BadPosition, {"index": 1}, work, HOUSE, [("p", 1), thing])
        for thing in no_heaps(odd_things()):
            self.refuses(BadPosition, {"index": 0}, turns, HOUSE, [("p", thing)])


if __name__ == "__main__":
    unittest.main()
