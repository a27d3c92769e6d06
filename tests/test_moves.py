"""Points 44 and 52: moves shown, made, counted, told by number."""

import itertools
import random
import unittest

from takeandsplit.errors import BadHouse, BadMove, BadNumber, BadPosition
from takeandsplit.houses import House
from takeandsplit.moves import count_moves, is_move, move_at, move_number, moved
from takeandsplit.options import count_options
from tests.engines import PQR, many_engines, names_of
from tests.plainplay import Refusals, no_heaps, no_numbers, plain_behind, plain_moves, random_position
from tests.samples import EMPTY, HOUSE, MOST_HEAP, odd_things

EXAMPLE = [("p", 10), ("q", 5), ("r", 9)]
GREAT = [("q", MOST_HEAP), ("p", MOST_HEAP), ("n", MOST_HEAP - 1), ("p", MOST_HEAP), ("r", 4), ("n", 7)]


class SmallTest(unittest.TestCase):
    def positions(self, seed):
        rng = random.Random(seed)
        houses = [HOUSE, HOUSE] + [engine.house() for engine in many_engines(15, seed)]
        for house in houses:
            names = [name for name, _ in house.books()]
            for _ in range(8):
                yield house, random_position(rng, names, 30)

    def test_against_a_plain_listing(self):
        for house, position in self.positions(71):
            want = plain_moves(house, position)
            self.assertEqual(count_moves(house, position), len(want))
            for number, move in enumerate(want):
                self.assertEqual(move_at(house, position, number), move)
                self.assertEqual(move_number(house, position, move), number)
                name, heap, option = move
                turned = [name, heap, tuple(reversed(option))]
                self.assertEqual(move_number(house, tuple(position), turned), number)
                self.assertEqual(moved(house, position, move), plain_behind(position, move))
                self.assertEqual(moved(house, [list(pair) for pair in position], turned), plain_behind(position, move))
                self.assertIs(is_move(house, position, turned), True)

    def test_is_move_of_all_that_is_near(self):
        for house, position in itertools.islice(self.positions(72), 0, None, 9):
            want = plain_moves(house, position)
            heaps = range(0, 8)
            choices = [[]] + [[a] for a in heaps] + [[a, b] for a in heaps for b in heaps] + [[1, 1, 1]]
            for (name, _), heap, option in itertools.product(house.books(), heaps, choices):
                good = (name, heap, sorted(option)) in want
                self.assertIs(is_move(house, position, (name, heap, option)), good)

    def test_like_pairs(self):
        once, twice = [("p", 4), ("r", 5)], [("p", 4), ("r", 5), ("p", 4), ("r", 5), ("r", 5)]
        self.assertEqual(count_moves(HOUSE, once), count_moves(HOUSE, twice))
        self.assertEqual(moved(HOUSE, twice, ("p", 4, [3, 1])), [("p", 1), ("p", 3), ("p", 4)] + [("r", 5)] * 3)

    def test_example(self):
        self.assertEqual(count_moves(PQR, EXAMPLE), 12)
        self.assertEqual(count_moves(PQR, [("p", 1000)]), 502)
        self.assertEqual(move_at(PQR, EXAMPLE, 0), ("p", 10, [1, 9]))
        self.assertEqual(move_at(PQR, EXAMPLE, 11), ("r", 9, [7]))
        self.assertEqual(count_moves(house=PQR, position=[]), 0)
        self.assertIs(is_move(house=PQR, position=[("r", 1)], thing=("r", 1, [])), True)
        self.assertEqual(moved(house=PQR, position=[("r", 1)], move=("r", 1, ())), [])
        self.assertEqual(move_at(house=PQR, position=[("r", 1)], number=0), ("r", 1, []))
        self.assertEqual(move_number(house=PQR, position=[("r", 1)], move=("r", 1, [])), 0)
        self.assertEqual(count_moves(House([("a", EMPTY)]), [("a", 3)]), 0)

    def test_kinds_of_rows(self):
        told = moved(HOUSE, [["r", 9], ["p", 10]], ["p", 10, (7, 3)])
        self.assertEqual(told, [("p", 3), ("p", 7), ("r", 9)])
        self.assertEqual([type(told), type(told[0])], [list, tuple])
        move = move_at(HOUSE, EXAMPLE, 2)
        self.assertEqual([type(part) for part in (move,) + move], [tuple, str, int, list])

    def test_told_ones_are_new(self):
        move_at(PQR, EXAMPLE, 0)[2].clear()
        self.assertEqual(move_at(PQR, EXAMPLE, 0), ("p", 10, [1, 9]))
        moved(PQR, EXAMPLE, ("p", 10, [8])).clear()
        position, move = [["r", 9], ["p", 10]], ["p", 10, [7, 3]]
        moved(PQR, position, move)
        move_number(PQR, position, move)
        self.assertEqual((position, move), ([["r", 9], ["p", 10]], ["p", 10, [7, 3]]))


class GreatTest(unittest.TestCase):
    def test_there_and_back(self):
        many = count_moves(HOUSE, GREAT)
        pairs = sorted(set(GREAT))
        self.assertEqual(many, sum(count_options(HOUSE.book(name), heap) for name, heap in pairs))
        bounds = [0]
        for name, heap in pairs:
            bounds.append(bounds[-1] + count_options(HOUSE.book(name), heap))
        tried = {number for bound in bounds + [many // 7, many // 3, many // 2]
                 for number in range(bound - 3, bound + 4) if 0 <= number < many}
        last = None
        for number in sorted(tried):
            move = move_at(HOUSE, GREAT, number)
            self.assertIs(is_move(HOUSE, GREAT, move), True)
            self.assertEqual(move_number(HOUSE, GREAT, move), number)
            self.assertTrue(last is None or last < move)
            last = move
            left = moved(HOUSE, GREAT, move)
            self.assertEqual(len(left), len(GREAT) - 1 + len(move[2]))
            self.assertEqual(left, sorted(left))
        self.assertEqual(move_at(HOUSE, GREAT, many - 1), ("r", 4, [2]))
        self.assertEqual(move_at(HOUSE, GREAT, 0)[:2], ("n", 7))

    def test_sixty_heaps(self):
        rng = random.Random(3)
        position = [(rng.choice("nprq"), rng.randint(1, MOST_HEAP)) for _ in range(60)]
        many = count_moves(HOUSE, position)
        for number in [0, many - 1] + [rng.randrange(many) for _ in range(20)]:
            self.assertEqual(move_number(HOUSE, position, move_at(HOUSE, position, number)), number)


class RefusalsTest(Refusals, unittest.TestCase):
    def test_houses_ahead_of_positions_ahead_of_the_rest(self):
        works = [(count_moves, ()), (is_move, (None,)), (moved, (None,)), (move_at, (None,)), (move_number, (None,))]
        for work, rest in works:
            for thing in odd_things():
                if not isinstance(thing, House):
                    self.refuses(BadHouse, {"thing": thing}, work, thing, None, *rest)
                if not isinstance(thing, (list, tuple)):
                    self.refuses(BadPosition, {"index": 0}, work, HOUSE, thing, *rest)
                if thing != ["p", 1]:
                    self.refuses(BadPosition, {"index": 1}, work, HOUSE, [("p", 3), thing], *rest)

    def test_no_moves(self):
        position = [("p", 10), ("r", 1), ("p", 1)]
        more = [("p", 10, [10]), ("p", 10, [1, 8]), ("p", 9, [8]), ("q", 10, [8]), ("x", 10, [8]), ("p", 10), ("p", 10, [9], 0),
                ("r", True, []), ("r", 1, None), ("r", 1, {}), ("r", 1, ""), ("r", 1, [1]), ("r", 1, [0]), (["r"], 1, []),
                ("r", [1], []), {"r": 1}, [["r", 1], []], ("p", 10, [9, 0]), ("p", 10, [9, True]), ("p", 10, [None, 9])]
        for thing in odd_things() + more:
            self.assertIs(is_move(HOUSE, position, thing), False)
            self.refuses(BadMove, {"thing": thing}, moved, HOUSE, position, thing)
            self.refuses(BadMove, {"thing": thing}, move_number, HOUSE, position, thing)
        for thing in no_heaps(odd_things()):
            self.assertIs(is_move(HOUSE, position, ("p", thing, [8])), False)
        self.refuses(BadMove, {}, moved, HOUSE, [], ("p", 10, [9]))

    def test_no_numbers(self):
        for thing in no_numbers(odd_things()) + [12, 13, 10 ** 40]:
            self.refuses(BadNumber, {"thing": thing}, move_at, PQR, EXAMPLE, thing)
        self.refuses(BadNumber, {"thing": 0}, move_at, PQR, [], 0)
        self.refuses(BadNumber, {}, move_at, HOUSE, GREAT, count_moves(HOUSE, GREAT))


if __name__ == "__main__":
    unittest.main()
