"""Points 45 to 47, 51 and 52: moves that win, of great heaps too, and the engine's moves."""

import itertools
import random
import time
import unittest

from takeandsplit.books import Book
from takeandsplit.engine import Engine
from takeandsplit.errors import BadEngine, BadMove, BadNumber, BadPosition
from takeandsplit.growing import growing_paper
from takeandsplit.houses import House
from takeandsplit.looks import found_paper
from takeandsplit.moves import count_moves, is_move, move_at, moved
from takeandsplit.papers import led_paper, value_at
from takeandsplit.winning import answer, best_move, count_winning, winning_at, winning_number
from takeandsplit.withvalue import count_with
from tests.engines import PAPERS, PQR, SPLITTING, example_engine, many_engines, names_of
from tests.plainplay import Refusals, no_numbers, plain_behind, plain_moves, random_position
from tests.samples import MOST_HEAP, P, Q_PAPER, odd_things
from tests.test_growing import NIM
from tests.test_looks import P_PAPER

EXAMPLE = [("p", 10), ("q", 5), ("r", 9)]


def plain_winning(engine, position):
    """The ascending list of the moves that leave a position of value 0."""
    return [move for move in plain_moves(engine.house(), position) if engine.value(plain_behind(position, move)) == 0]


class SmallTest(unittest.TestCase):
    def same(self, engine, position):
        want = plain_winning(engine, position)
        self.assertEqual(count_winning(engine, position), len(want), position)
        self.assertEqual([winning_at(engine, position, number) for number in range(len(want))], want)
        self.assertEqual(best_move(engine, position), want[0] if want else None)
        numbers = {(name, heap, tuple(option)): number for number, (name, heap, option) in enumerate(want)}
        for name, heap, option in plain_moves(engine.house(), position):
            number = winning_number(engine, position, [name, heap, option[::-1]])
            self.assertEqual(number, numbers.get((name, heap, tuple(option))))
        # Just one: the position's value is 0, or a move wins.
        self.assertEqual(engine.value(position) == 0, not want)

    def test_against_going_through(self):
        rng = random.Random(81)
        for engine in [example_engine()] * 3 + list(many_engines(40, 82)):
            for _ in range(6):
                self.same(engine, random_position(rng, names_of(engine), rng.choice([8, 20, 60])))

    def test_one_heap_of_any_size(self):
        for engine in [example_engine()] + list(many_engines(8, 83)):
            for name in names_of(engine):
                for heap in range(1, 40):
                    self.same(engine, [(name, heap)])

    def test_two_heaps(self):
        engine = example_engine()
        for first, second in itertools.product(range(1, 30, 2), repeat=2):
            for names in ("pp", "pq", "pr"):
                self.same(engine, [(names[0], first), (names[1], second)])

    def test_like_pairs_no_heaps_and_no_moves(self):
        engine = example_engine()
        for position in ([], [("r", 2)], [("p", 1), ("r", 2)], [("p", 4)] * 3, [("p", 4), ("r", 4), ("p", 4)], [("q", 2)] * 4):
            self.same(engine, position)
        self.assertEqual(count_winning(engine, [("p", 4)] * 3), count_winning(engine, [("p", 4)]))
        self.assertIsNone(best_move(engine, []))

    def test_order_tells_nothing(self):
        engine = example_engine()
        want = [winning_at(engine, EXAMPLE, number) for number in range(5)]
        for row in itertools.permutations(EXAMPLE):
            self.assertEqual(count_winning(engine, row), 5)
            self.assertEqual([winning_at(engine, [list(pair) for pair in row], number) for number in range(5)], want)

    def test_examples(self):
        engine = example_engine()
        self.assertEqual(count_winning(engine=engine, position=EXAMPLE), 5)
        self.assertEqual(best_move(engine=engine, position=EXAMPLE), ("p", 10, [3, 7]))
        self.assertEqual(winning_at(engine=engine, position=EXAMPLE, number=4), ("r", 9, [6]))
        self.assertEqual(winning_number(engine=engine, position=EXAMPLE, move=("r", 9, [6])), 4)
        self.assertEqual(answer(engine=engine, position=EXAMPLE, move=("q", 5, [3])), ("p", 10, [4, 6]))
        self.assertEqual(answer(engine, [("p", 7), ("r", 4)], ("p", 7, [6])), ("r", 4, [1]))

    def test_answers(self):
        rng = random.Random(84)
        noughts = 0
        for engine in [example_engine()] * 4 + list(many_engines(30, 85)):
            for _ in range(12):
                position = random_position(rng, names_of(engine), 26)
                nought = engine.value(position) == 0
                noughts += nought
                for move in plain_moves(engine.house(), position):
                    left = plain_behind(position, move)
                    want = plain_winning(engine, left)
                    self.assertEqual(answer(engine, position, move), want[0] if want else None)
                    self.assertTrue(want or not nought)
                    if nought:
                        self.assertEqual(engine.value(plain_behind(left, want[0])), 0)
        self.assertGreater(noughts, 20)

    def test_facts(self):
        rng = random.Random(86)
        for engine in [example_engine()] + list(many_engines(10, 87)):
            for _ in range(5):
                position = random_position(rng, names_of(engine), 40)
                pair = (rng.choice(names_of(engine)), rng.randint(1, MOST_HEAP))
                self.assertEqual(engine.value(position + [pair, pair]), engine.value(position))
                still = [(name, heap) for name, heap in position if engine.value([(name, heap)]) != 0]
                self.assertEqual(engine.value(still), engine.value(position))

    def test_told_ones_are_new(self):
        engine = example_engine()
        for work in (best_move, lambda *things: winning_at(*things, 0)):
            told = work(engine, EXAMPLE)
            self.assertEqual([type(part) for part in (told,) + told], [tuple, str, int, list])
            told[2].clear()
            self.assertEqual(work(engine, EXAMPLE), ("p", 10, [3, 7]))
        answer(engine, EXAMPLE, ("q", 5, [3]))[2].clear()
        self.assertEqual(answer(engine, EXAMPLE, ("q", 5, [3])), ("p", 10, [4, 6]))


class GreatTest(unittest.TestCase):
    def test_example(self):
        engine, position = example_engine(), [("p", 1000)]
        self.assertEqual((count_winning(engine, position), count_moves(PQR, position)), (167, 502))
        self.assertEqual(winning_at(engine, position, 0), ("p", 1000, [5, 995]))
        self.assertEqual(winning_at(engine, position, 166), ("p", 1000, [998]))

    def test_as_many_as_lesser_heaps_of_the_same_rests_tell(self):
        """Counts of one heap go up by as much with each step of its size, once it is far enough."""
        for book in [P] + SPLITTING[1:]:
            paper = found_paper(book, 250)
            engine = Engine(House([("a", book), ("b", NIM)]), {"a": paper, "b": growing_paper(NIM, 9)})
            step = 2 * paper[1]
            for rest in range(0, step, 5):
                for value in range(3):
                    def position(times, rest=rest, value=value):
                        return [("a", 3 * paper[0] + 30 + rest + times * step)] + [("b", value)] * (value > 0)

                    first, second = [len(plain_winning(engine, position(times))) for times in (0, 1)]
                    times = (MOST_HEAP - 3 * paper[0] - 30 - step) // step
                    want = first + times * (second - first)
                    self.assertEqual(count_winning(engine, position(1)), second)
                    self.assertEqual(count_winning(engine, position(times)), want)

    def test_there_and_back(self):
        rng = random.Random(88)
        for engine in [example_engine()] * 3 + list(many_engines(30, 89)):
            for _ in range(3):
                names = [rng.choice(names_of(engine)) for _ in range(rng.randint(1, 4))]
                position = [(name, rng.randint(MOST_HEAP // 2, MOST_HEAP)) for name in names]
                many = count_winning(engine, position)
                self.assertEqual(many == 0, engine.value(position) == 0)
                tried = {number for base in (0, many // 3, many // 2, many) for number in range(base - 3, base + 4)
                         if 0 <= number < many}
                last = None
                for number in sorted(tried):
                    move = winning_at(engine, position, number)
                    self.assertTrue(is_move(engine.house(), position, move))
                    self.assertEqual(engine.value(moved(engine.house(), position, move)), 0)
                    self.assertEqual(winning_number(engine, position, move), number)
                    self.assertTrue(last is None or last < move)
                    last = move
                self.assertEqual(best_move(engine, position), winning_at(engine, position, 0) if many else None)

    def test_moves_that_do_not_win(self):
        rng = random.Random(90)
        engine = example_engine()
        position = [("p", MOST_HEAP), ("p", MOST_HEAP - 5), ("q", 10 ** 12), ("r", 10 ** 17)]
        many = count_moves(PQR, position)
        for _ in range(60):
            move = move_at(PQR, position, rng.randrange(many))
            wins = engine.value(moved(PQR, position, move)) == 0
            self.assertEqual(winning_number(engine, position, move) is not None, wins)

    def test_growing_books(self):
        engine = example_engine()
        for heap, value in [(MOST_HEAP, 3), (MOST_HEAP - 1, 2), (10 ** 9, 7)]:
            position = [("q", heap), ("q", 2 * value)]
            want = 2 if value_at(Q_PAPER, 2 * value) else 1
            self.assertEqual(count_winning(engine, position), want)
            self.assertEqual(winning_at(engine, position, 0), ("q", heap, [2 * value]))
            self.assertEqual(winning_at(engine, position, 1), ("q", heap, [2 * value + 1]))
        still = Book([(1, None, "none", 0, 1), (2, 2, "none", 0, 1), (1, 1, "one", 0, 1)])
        house = House([("s", still), ("n", NIM)])
        papers = {"s": growing_paper(still, 60), "n": growing_paper(NIM, 9)}
        self.assertEqual(papers["s"][2], 0)
        engine = Engine(house, papers)
        for heap in (30, 31, MOST_HEAP, MOST_HEAP - 1):
            small = [("s", 30 + heap % 2), ("n", 2)]
            self.assertEqual(count_winning(engine, [("s", heap), ("n", 2)]), len(plain_winning(engine, small)))
        low = Book([(3, None, "one", 0, 1), (1, 1, "none", 0, 1)])
        engine = Engine(House([("a", low), ("n", NIM)]), {"a": growing_paper(low, 80), "n": growing_paper(NIM, 9)})
        paper = engine.papers()["a"]
        for value in range(5):
            position = [("a", MOST_HEAP)] + [("n", value)] * (value > 0)
            among = count_with(paper, value, MOST_HEAP - 3)
            self.assertEqual(count_winning(engine, position), among)
            self.assertEqual([winning_at(engine, position, number)[2] for number in range(among)],
                             [[heap] for heap in range(1, 99) if value_at(paper, heap) == value])

    def test_longer_papers_tell_the_same_moves(self):
        longer = {name: led_paper(paper, paper[0] + 40, paper[1] * 7) for name, paper in PAPERS.items()}
        one, other = example_engine(), Engine(PQR, longer)
        rng = random.Random(91)
        for _ in range(40):
            position = [(rng.choice("pqr"), rng.choice([rng.randint(1, 200), rng.randint(1, MOST_HEAP)])) for _ in range(4)]
            many = count_winning(one, position)
            self.assertEqual(count_winning(other, position), many)
            for number in {0, many // 2, many - 1} if many else ():
                self.assertEqual(winning_at(other, position, number), winning_at(one, position, number))

    def test_to_the_limits(self):
        began = time.monotonic()
        rng = random.Random(92)
        names = ["a", "b", "c", "d", "e", "f", "g", "h"]
        paper = led_paper(P_PAPER, 300, 99)
        engine = Engine(House([(name, P) for name in names]), {name: paper for name in names})
        position = [(rng.choice(names), rng.randint(1, MOST_HEAP)) for _ in range(60)]
        many = count_winning(engine, position)
        for number in [0, many // 2, many - 1] if many else []:
            self.assertEqual(winning_number(engine, position, winning_at(engine, position, number)), number)
        for _ in range(20):
            best_move(engine, position)
        self.assertLess(time.monotonic() - began, 20)

    def test_two_engines_in_turns(self):
        one = example_engine()
        other = Engine(House([("p", NIM)]), {"p": growing_paper(NIM, 9)})
        for _ in range(3):
            self.assertEqual(best_move(one, [("p", 1000)]), ("p", 1000, [5, 995]))
            self.assertEqual(best_move(other, [("p", 1000)]), ("p", 1000, []))


class RefusalsTest(Refusals, unittest.TestCase):
    def test_in_their_order(self):
        engine = example_engine()
        works = [(count_winning, ()), (winning_at, (None,)), (winning_number, (None,)), (best_move, ()), (answer, (None,))]
        for work, rest in works:
            for thing in odd_things():
                self.refuses(BadEngine, {"thing": thing}, work, thing, None, *rest)
                if not isinstance(thing, (list, tuple)):
                    self.refuses(BadPosition, {"index": 0}, work, engine, thing, *rest)
                if thing != ["p", 1]:
                    self.refuses(BadPosition, {"index": 1}, work, engine, [("p", 3), thing], *rest)
            self.refuses(BadPosition, {"index": 0}, work, engine, [("n", 3)], *rest)

    def test_no_numbers(self):
        engine = example_engine()
        for thing in no_numbers(odd_things()) + [5, 6, 10 ** 30]:
            self.refuses(BadNumber, {"thing": thing}, winning_at, engine, EXAMPLE, thing)
        self.refuses(BadNumber, {"thing": 0}, winning_at, engine, [("p", 7), ("r", 4)], 0)
        self.refuses(BadNumber, {"thing": 0}, winning_at, engine, [], 0)

    def test_no_moves(self):
        engine = example_engine()
        for thing in odd_things() + [("p", 10, [10]), ("p", 9, [8]), ("q", 5, [4]), ("n", 5, [4]), ("q", 5, [3], 0)]:
            self.refuses(BadMove, {"thing": thing}, winning_number, engine, EXAMPLE, thing)
            self.refuses(BadMove, {"thing": thing}, answer, engine, EXAMPLE, thing)


if __name__ == "__main__":
    unittest.main()
