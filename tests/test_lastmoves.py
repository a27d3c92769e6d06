"""Points 57 and 61: moves that win where who takes last loses, of great heaps too."""

import itertools
import random
import time
import unittest

from takeandsplit import errors
from takeandsplit.engine import Engine
from takeandsplit.errors import BadEngine, BadMove, BadNumber, BadPosition
from takeandsplit.houses import House
from takeandsplit.lastmoves import best_last, count_last, last_at, last_number
from takeandsplit.lastwins import wins_last
from takeandsplit.looks import found_paper
from takeandsplit.moves import count_moves, is_move, move_at, moved
from takeandsplit.papers import led_paper
from tests.engines import example_engine, names_of
from tests.plainplay import PlainPlays, Refusals, no_numbers, plain_behind, plain_moves, random_position
from tests.samples import MOST_HEAP, odd_things
from tests.tames import NOT_ALL_TAME, T, T_PAPER, TAMES, mixed_engine, plain_lost, tame_engines, told_values

EXAMPLE = [("r", 9), ("r", 4), ("r", 1)]


def plain_winning(engine, position):
    """The ascending list of the moves that leave a lost position, by the words of point 55."""
    moves = plain_moves(engine.house(), position)
    return [move for move in moves if plain_lost(told_values(engine, plain_behind(position, move)))]


class SmallTest(unittest.TestCase):
    def same(self, engine, position):
        want = plain_winning(engine, position)
        self.assertEqual(count_last(engine, position), len(want), position)
        self.assertEqual([last_at(engine, position, number) for number in range(len(want))], want)
        self.assertEqual(best_last(engine, position), want[0] if want else None)
        numbers = {(name, heap, tuple(option)): number for number, (name, heap, option) in enumerate(want)}
        moves = plain_moves(engine.house(), position)
        for name, heap, option in moves:
            number = last_number(engine, position, [name, heap, option[::-1]])
            self.assertEqual(number, numbers.get((name, heap, tuple(option))))
        # Just one, where a move is left: who moves loses, or a move wins.
        self.assertEqual(wins_last(engine, position), want != [] or moves == [])

    def test_against_all_plays(self):
        rng = random.Random(311)
        for engine in tame_engines(30, 312):
            plays = PlainPlays(engine.house())
            for _ in range(5):
                position = random_position(rng, names_of(engine), 11)
                want = [move for move in plain_moves(engine.house(), position)
                        if not plays.under(plain_behind(position, move))[1]]
                self.assertEqual(plain_winning(engine, position), want)
                self.same(engine, position)

    def test_against_going_through(self):
        rng = random.Random(313)
        for engine in tame_engines(50, 314):
            for _ in range(6):
                self.same(engine, random_position(rng, names_of(engine), rng.choice([8, 20, 60])))

    def test_one_heap_and_two(self):
        for engine in [example_engine()] + list(tame_engines(10, 315)):
            rows = [["r"]] if "r" in names_of(engine) else [[name] for name in names_of(engine)]
            for (name,), heap in itertools.product(rows, range(1, 40)):
                self.same(engine, [(name, heap)])
                self.same(engine, [(name, heap), (name, 1 + heap * 7 % 23)])

    def test_one_high_heap_beside_low_ones(self):
        """The move has to leave an odd number of ones, or none but nought."""
        engine = example_engine()
        for ones in range(5):
            self.same(engine, [("r", 4)] + [("r", 1)] * ones)
            self.same(engine, [("r", 9)] + [("r", 6)] * ones + [("r", 2)])
            self.same(engine, [("r", 9), ("r", 4)] + [("r", 6)] * ones)
            self.assertEqual(best_last(engine, [("r", 4)] + [("r", 1)] * ones), ("r", 4, [2 - (ones + 1) % 2]))

    def test_no_heaps_and_no_moves(self):
        engine = example_engine()
        for position in ([], [("r", 2)], [("r", 2)] * 3):
            self.same(engine, position)
            self.assertEqual((count_last(engine, position), best_last(engine, position)), (0, None))

    def test_order_tells_nothing(self):
        engine = example_engine()
        want = plain_winning(engine, EXAMPLE)
        self.assertGreater(len(want), 0)
        for row in itertools.permutations(EXAMPLE):
            self.assertEqual([last_at(engine, [list(pair) for pair in row], number) for number in range(len(want))], want)

    def test_examples(self):
        engine = example_engine()
        self.assertEqual(best_last(engine=engine, position=[("r", 4), ("r", 1)]), ("r", 4, [2]))
        self.assertEqual(count_last(engine=engine, position=[("r", 4), ("r", 1)]), 1)
        self.assertEqual(last_at(engine=engine, position=[("r", 4), ("r", 1)], number=0), ("r", 4, [2]))
        self.assertEqual(last_number(engine=engine, position=[("r", 4), ("r", 1)], move=("r", 4, (2,))), 0)
        self.assertIsNone(last_number(engine, [("r", 4), ("r", 1)], ("r", 4, [1])))
        self.assertIsNone(last_number(engine, [("r", 1)], ("r", 1, [])))

    def test_told_ones_are_new(self):
        engine = example_engine()
        for work in (best_last, lambda *things: last_at(*things, 0)):
            told = work(engine, [("r", 4), ("r", 1)])
            self.assertEqual([type(part) for part in (told,) + told], [tuple, str, int, list])
            told[2].clear()
            self.assertEqual(work(engine, [("r", 4), ("r", 1)]), ("r", 4, [2]))


class GreatTest(unittest.TestCase):
    def test_as_many_as_lesser_heaps_of_the_same_rests_tell(self):
        """Counts of one heap go up by as much with each step of its size, once it is far enough."""
        for book in TAMES[2:8]:
            paper = found_paper(book, 250)
            engine = Engine(House([("a", book), ("t", T)]), {"a": paper, "t": T_PAPER})
            step = 2 * paper[1]
            for rest, value in itertools.product(range(0, step, 5), range(3)):
                def position(times, rest=rest, value=value):
                    return [("a", 3 * paper[0] + 30 + rest + times * step)] + [("t", value)] * (value > 0)

                first, second = [len(plain_winning(engine, position(times))) for times in (0, 1)]
                times = (MOST_HEAP - 3 * paper[0] - 30 - step) // step
                self.assertEqual(count_last(engine, position(1)), second)
                self.assertEqual(count_last(engine, position(times)), first + times * (second - first))

    def test_there_and_back(self):
        rng = random.Random(316)
        some = 0
        for engine in tame_engines(60, 317):
            names = [rng.choice(names_of(engine)) for _ in range(rng.randint(1, 4))]
            position = [(name, rng.randint(MOST_HEAP // 2, MOST_HEAP)) for name in names]
            many = count_last(engine, position)
            left = count_moves(engine.house(), position) > 0
            self.assertEqual(many == 0, not (left and wins_last(engine, position)))
            last = None
            for number in sorted({base + more for base in (0, many // 3, many // 2, many) for more in range(-3, 4)}):
                if not 0 <= number < many:
                    continue
                move = last_at(engine, position, number)
                self.assertTrue(is_move(engine.house(), position, move))
                self.assertFalse(wins_last(engine, moved(engine.house(), position, move)))
                self.assertEqual(last_number(engine, position, move), number)
                self.assertTrue(last is None or last < move)
                last = move
            some += many > 10 ** 9
            self.assertEqual(best_last(engine, position), last_at(engine, position, 0) if many else None)
        self.assertGreater(some, 5)

    def test_moves_that_do_not_win(self):
        rng = random.Random(318)
        for engine in tame_engines(30, 319):
            position = [(rng.choice(names_of(engine)), rng.randint(1, MOST_HEAP)) for _ in range(3)]
            many = count_moves(engine.house(), position)
            for _ in range(12 if many else 0):
                move = move_at(engine.house(), position, rng.randrange(many))
                loses = not wins_last(engine, moved(engine.house(), position, move))
                self.assertEqual(last_number(engine, position, move) is not None, loses)

    def test_to_the_limits(self):
        began = time.monotonic()
        rng = random.Random(320)
        names = ["a", "b", "c", "d", "e", "f", "g", "h"]
        for book in TAMES[2:5]:
            least = found_paper(book, 250)
            paper = led_paper(least, 60, 2 * least[1])
            engine = Engine(House([(name, book) for name in names]), {name: paper for name in names})
            position = [(rng.choice(names), rng.randint(1, MOST_HEAP)) for _ in range(60)]
            many = count_last(engine, position)
            for number in [0, many // 2, many - 1] if many else []:
                self.assertEqual(last_number(engine, position, last_at(engine, position, number)), number)
            for _ in range(10):
                best_last(engine, position)
        self.assertLess(time.monotonic() - began, 20)


class RefusalsTest(Refusals, unittest.TestCase):
    def test_in_their_order(self):
        engine = mixed_engine()
        for work, rest in [(count_last, ()), (last_at, (None,)), (last_number, (None,)), (best_last, ())]:
            for thing in odd_things():
                self.refuses(BadEngine, {"thing": thing}, work, thing, None, *rest)
                if not isinstance(thing, (list, tuple)):
                    self.refuses(BadPosition, {"index": 0}, work, engine, thing, *rest)
                if thing != ["p", 1]:
                    self.refuses(BadPosition, {"index": 1}, work, engine, [("q", 3), thing], *rest)
            for position, kind, name in NOT_ALL_TAME:
                self.refuses(getattr(errors, kind), {"name": name}, work, engine, position, *rest)

    def test_no_numbers(self):
        engine = example_engine()
        many = count_last(engine, EXAMPLE)
        for thing in no_numbers(odd_things()) + [many, many + 1, 10 ** 30]:
            self.refuses(BadNumber, {"thing": thing}, last_at, engine, EXAMPLE, thing)
        for position in ([], [("r", 2)], [("r", 1)]):
            self.refuses(BadNumber, {"thing": 0}, last_at, engine, position, 0)

    def test_no_moves(self):
        engine = example_engine()
        for thing in odd_things() + [("r", 9, [9]), ("r", 9, [5]), ("r", 8, [7]), ("r", 9, [7], 0), ("p", 9, [8])]:
            self.refuses(BadMove, {"thing": thing}, last_number, engine, EXAMPLE, thing)


if __name__ == "__main__":
    unittest.main()
