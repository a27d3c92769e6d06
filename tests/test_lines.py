"""Points 48, 49 and 52: lines of moves, and plays in which an engine is followed."""

import itertools
import random
import time
import unittest

from takeandsplit.engine import Engine
from takeandsplit.errors import BadEngine, BadHouse, BadLine, BadNumbers, BadPosition, NotWon
from takeandsplit.houses import House
from takeandsplit.lines import behind, followed, line_fault
from takeandsplit.moves import count_moves, is_move, moved
from takeandsplit.papers import led_paper
from takeandsplit.winning import best_move
from tests.engines import PAPERS, PQR, example_engine, many_engines, names_of
from tests.plainplay import Refusals, no_numbers, plain_behind, plain_moves, random_position
from tests.samples import HOUSE, MOST_HEAP, P, odd_things

EXAMPLE = [("p", 10), ("q", 5), ("r", 9)]


def random_line(rng, house, position, most):
    """Some moves one behind another, and what they leave."""
    line = []
    for _ in range(most):
        moves = plain_moves(house, position)
        if not moves:
            break
        line.append(rng.choice(moves))
        position = plain_behind(position, line[-1])
    return line, sorted(position)


def plain_followed(engine, position, numbers):
    """By the words of point 49, move by move."""
    line, numbers = [], list(numbers)
    while True:
        moves = plain_moves(engine.house(), position)
        if len(line) % 2 == 0:
            if not moves:
                return line
            wins = [move for move in moves if engine.value(plain_behind(position, move)) == 0]
            line.append(wins[0])
        else:
            if not moves or not numbers:
                return line
            line.append(moves[numbers.pop(0) % len(moves)])
        position = plain_behind(position, line[-1])


class LineTest(Refusals, unittest.TestCase):
    def test_lines(self):
        rng = random.Random(101)
        for house in [HOUSE] * 4 + [engine.house() for engine in many_engines(10, 102)]:
            for _ in range(4):
                position = random_position(rng, [name for name, _ in house.books()], 20)
                line, left = random_line(rng, house, position, rng.choice([0, 1, 3, 50]))
                self.assertIsNone(line_fault(house, position, line))
                self.assertEqual(behind(house, position, line), left)
                turned = [[name, heap, tuple(option[::-1])] for name, heap, option in line]
                self.assertIsNone(line_fault(house, tuple(position), tuple(turned)))
                self.assertEqual(behind(house, [list(pair) for pair in position], turned), left)

    def test_cut_and_otherwise(self):
        rng = random.Random(103)
        for _ in range(40):
            position = random_position(rng, ["p", "q", "r", "n"], 20)
            line, _ = random_line(rng, HOUSE, position, 12)
            for at in range(len(line)):
                self.assertIsNone(line_fault(HOUSE, position, line[:at]))
                changed = line[:at] + [rng.choice([("p", 3, [2]), ("q", 1, []), ("n", 2, [1]), ("r", 4, [9])])] + line[at:]
                twice = line[:at + 1] + line[at:]
                without = line[:at] + line[at + 1:]
                for one in (changed, twice, without):
                    self.assertEqual(line_fault(HOUSE, position, one), self.plain_fault(position, one))
                    if self.plain_fault(position, one) is not None:
                        self.refuses(BadLine, {"thing": one}, behind, HOUSE, position, one)

    def plain_fault(self, position, line):
        for index, move in enumerate(line):
            if move not in plain_moves(HOUSE, position):
                return ("move", index)
            position = plain_behind(position, move)
        return None

    def test_examples(self):
        self.assertIsNone(line_fault(house=PQR, position=EXAMPLE, thing=[]))
        self.assertEqual(behind(house=PQR, position=[["r", 9], ("p", 10)], line=()), [("p", 10), ("r", 9)])
        self.assertEqual(behind(PQR, EXAMPLE, [("p", 10, [7, 3]), ("p", 3, [2])]), [("p", 2), ("p", 7), ("q", 5), ("r", 9)])
        self.assertEqual(line_fault(PQR, EXAMPLE, [("p", 10, [3, 7]), ("p", 10, [3, 7])]), ("move", 1))
        self.assertIsNone(line_fault(PQR, EXAMPLE + [("p", 10)], [("p", 10, [3, 7]), ("p", 10, [3, 7])]))
        self.assertEqual(behind(PQR, [("r", 1)], [("r", 1, [])]), [])
        self.assertEqual(line_fault(PQR, [("r", 1)], [("r", 1, []), ("r", 1, [])]), ("move", 1))
        self.assertEqual(line_fault(PQR, [], [None]), ("move", 0))

    def test_things(self):
        for thing in odd_things():
            if not isinstance(thing, (list, tuple)):
                self.assertEqual(line_fault(PQR, EXAMPLE, thing), ("form",))
                self.refuses(BadLine, {"thing": thing}, behind, PQR, EXAMPLE, thing)
            elif thing:
                self.assertEqual(line_fault(PQR, EXAMPLE, thing), ("move", 0))
                self.refuses(BadLine, {"thing": thing}, behind, PQR, EXAMPLE, thing)
            self.assertEqual(line_fault(PQR, EXAMPLE, [("q", 5, [3]), thing]), ("move", 1))

    def test_houses_ahead_of_positions(self):
        for work, thing in itertools.product((line_fault, behind), odd_things()):
            if not isinstance(thing, House):
                self.refuses(BadHouse, {"thing": thing}, work, thing, None, None)
            if not isinstance(thing, (list, tuple)):
                self.refuses(BadPosition, {"index": 0}, work, PQR, thing, None)
            if thing != ["p", 1]:
                self.refuses(BadPosition, {"index": 1}, work, PQR, [("p", 1), thing], None)

    def test_passed_and_told_ones_stay(self):
        position, line = [["r", 9], ["p", 10]], [["p", 10, [7, 3]]]
        behind(PQR, position, line).clear()
        line_fault(PQR, position, line)
        self.assertEqual((position, line), ([["r", 9], ["p", 10]], [["p", 10, [7, 3]]]))
        told = behind(PQR, position, line)
        self.assertEqual([type(told), type(told[0])], [list, tuple])

    def test_great_heaps(self):
        position = [("p", MOST_HEAP), ("q", MOST_HEAP)]
        line = [("p", MOST_HEAP, [MOST_HEAP - 7, 7]), ("q", MOST_HEAP, [1]), ("p", MOST_HEAP - 7, [MOST_HEAP - 8])]
        self.assertEqual(behind(PQR, position, line), [("p", 7), ("p", MOST_HEAP - 8), ("q", 1)])


class FollowedTest(Refusals, unittest.TestCase):
    def test_by_the_words(self):
        rng = random.Random(104)
        for engine in [example_engine()] * 6 + list(many_engines(25, 105)):
            for _ in range(4):
                position = random_position(rng, names_of(engine), 22)
                if engine.value(position) == 0:
                    self.refuses(NotWon, {}, followed, engine, position, [])
                    continue
                numbers = [rng.choice([rng.randrange(9), rng.randrange(10 ** 18)]) for _ in range(rng.choice([0, 1, 2, 5, 60]))]
                line = followed(engine, position, numbers)
                self.assertEqual(line, plain_followed(engine, position, numbers))
                self.assertEqual(followed(engine, tuple(list(pair) for pair in position), tuple(numbers)), line)
                self.assertIsNone(line_fault(engine.house(), position, line))

    def test_to_the_end(self):
        """Who follows the engine takes last, whatever the other one does."""
        rng = random.Random(106)
        for engine in [example_engine()] * 4 + list(many_engines(25, 107)):
            for _ in range(3):
                position = random_position(rng, names_of(engine), 60)
                if engine.value(position) == 0:
                    continue
                line = followed(engine, position, [rng.randrange(10 ** 18) for _ in range(150)])
                self.assertEqual(len(line) % 2, 1)
                left = behind(engine.house(), position, line)
                self.assertEqual(count_moves(engine.house(), left), 0)
                now = position
                for index, move in enumerate(line):
                    if index % 2 == 0:
                        self.assertEqual(move, best_move(engine, now))
                    now = moved(engine.house(), now, move)

    def test_as_far_as_the_numbers_last(self):
        engine, position = example_engine(), [("p", MOST_HEAP), ("q", 10 ** 12), ("r", 10 ** 17 + 3)]
        rng = random.Random(108)
        numbers = [rng.randrange(10 ** 18) for _ in range(30)]
        whole = followed(engine, position, numbers)
        self.assertEqual(len(whole), 61)
        for many in range(30):
            self.assertEqual(followed(engine=engine, position=position, numbers=numbers[:many]), whole[:2 * many + 1])
        self.assertEqual(followed(engine, position, []), [best_move(engine, position)])

    def test_all_numbers(self):
        """Each number tells its rest by how many moves there are."""
        engine, position = example_engine(), [("p", 9), ("r", 4)]
        first = best_move(engine, position)
        moves = plain_moves(PQR, plain_behind(position, first))
        for number in range(3 * len(moves)):
            line = followed(engine, position, [number])
            self.assertEqual(line[:2], [first, moves[number % len(moves)]])
            self.assertEqual(followed(engine, position, [number + len(moves) * 10 ** 16])[:2], line[:2])

    def test_no_move_left(self):
        engine = example_engine()
        self.assertEqual(followed(engine, [("r", 1)], [5, 6, 7]), [("r", 1, [])])
        self.assertEqual(followed(engine, [("r", 1)], ()), [("r", 1, [])])
        self.assertEqual(followed(engine, [("r", 1), ("p", 1), ("q", 2)], [0]), [("r", 1, [])])

    def test_not_won(self):
        engine = example_engine()
        for position in ([], [("p", 7), ("r", 4)], [("q", 9), ("q", 9)], [("p", MOST_HEAP)] * 2, [("p", 1)]):
            self.refuses(NotWon, {"value": 0}, followed, engine, position, [1])

    def test_errors_in_their_order(self):
        engine = example_engine()
        for thing in odd_things():
            self.refuses(BadEngine, {"thing": thing}, followed, thing, None, None)
            if not isinstance(thing, (list, tuple)):
                self.refuses(BadPosition, {"index": 0}, followed, engine, thing, None)
                for position in (EXAMPLE, []):
                    self.refuses(BadNumbers, {"index": 0}, followed, engine, position, thing)
            if thing != ["p", 1]:
                self.refuses(BadPosition, {"index": 1}, followed, engine, [("p", 1), thing], None)
        for thing in no_numbers(odd_things()):
            for position in (EXAMPLE, [("p", 7), ("r", 4)]):
                self.refuses(BadNumbers, {"index": 2}, followed, engine, position, [0, 10 ** 18, thing, None])
            self.refuses(BadNumbers, {"index": 0}, followed, engine, [("r", 1)], [thing])

    def test_told_ones_are_new(self):
        engine, numbers = example_engine(), [3, 1, 4, 1, 5]
        line = followed(engine, EXAMPLE, numbers)
        self.assertEqual([type(part) for part in (line, line[0]) + line[0]], [list, tuple, str, int, list])
        options = [move[2] for move in line]
        self.assertEqual(len({id(option) for option in options}), len(options))
        want = [(name, heap, list(option)) for name, heap, option in line]
        for option in options:
            option.append(1)
        self.assertEqual(followed(engine, EXAMPLE, numbers), want)
        self.assertEqual(numbers, [3, 1, 4, 1, 5])

    def test_to_the_limits(self):
        began = time.monotonic()
        rng = random.Random(109)
        names = ["a", "b", "c", "d", "e", "f", "g", "h"]
        paper = led_paper(PAPERS["p"], 300, 99)
        engine = Engine(House([(name, P) for name in names]), {name: paper for name in names})
        for most in (40, MOST_HEAP):
            position = [(rng.choice(names), rng.randint(most // 2, most)) for _ in range(60)]
            if engine.value(position) == 0:
                position.pop()
            if engine.value(position) != 0:
                line = followed(engine, position, [rng.randrange(10 ** 18) for _ in range(60)])
                self.assertEqual(len(line), 121)
                self.assertTrue(is_move(engine.house(), position, line[0]))
        self.assertLess(time.monotonic() - began, 20)


if __name__ == "__main__":
    unittest.main()
