"""Points 58, 59 and 61: plays followed where who takes last loses, and where the words on values fail."""

import itertools
import random
import time
import unittest

from takeandsplit import errors
from takeandsplit.books import Book
from takeandsplit.engine import Engine
from takeandsplit.errors import BadBook, BadEngine, BadNumber, BadNumbers, BadPosition, LostHere
from takeandsplit.houses import House
from takeandsplit.lastmoves import best_last
from takeandsplit.lastplays import first_off, followed_last
from takeandsplit.lastwins import wins_last
from takeandsplit.lines import behind, line_fault
from takeandsplit.looks import found_paper
from takeandsplit.moves import count_moves, moved
from takeandsplit.papers import led_paper
from tests.engines import example_engine, names_of
from tests.plainplay import PlainPlays, Refusals, no_numbers, plain_behind, plain_moves, random_position
from tests.samples import EMPTY, MOST_HEAP, N, P, Q, R, many_rules, odd_things, plain_values
from tests.tames import NOT_ALL_TAME, TAMES, mixed_engine, plain_lost, tame_engines, told_values

EXAMPLE = [("r", 9), ("r", 4), ("r", 1)]


def plain_followed(engine, position, numbers):
    """By the words of point 58, move by move."""
    line, numbers = [], list(numbers)
    while True:
        moves = plain_moves(engine.house(), position)
        if not moves:
            return line
        if len(line) % 2 == 0:
            line.append(next(move for move in moves if plain_lost(told_values(engine, plain_behind(position, move)))))
        elif not numbers:
            return line
        else:
            line.append(moves[numbers.pop(0) % len(moves)])
        position = plain_behind(position, line[-1])


class FollowedTest(Refusals, unittest.TestCase):
    def test_by_the_words(self):
        rng = random.Random(331)
        for engine in tame_engines(60, 332):
            for _ in range(4):
                position = random_position(rng, names_of(engine), 22)
                if not wins_last(engine, position):
                    self.refuses(LostHere, {}, followed_last, engine, position, [])
                    continue
                numbers = [rng.choice([rng.randrange(9), rng.randrange(10 ** 18)]) for _ in range(rng.choice([0, 1, 2, 5, 60]))]
                line = followed_last(engine, position, numbers)
                self.assertEqual(line, plain_followed(engine, position, numbers))
                self.assertEqual(followed_last(engine, tuple(list(pair) for pair in position), tuple(numbers)), line)
                self.assertIsNone(line_fault(engine.house(), position, line))

    def test_to_the_end(self):
        """Who follows the engine does not take last, whatever the other one does."""
        rng = random.Random(333)
        ended = 0
        for engine in tame_engines(60, 334):
            for _ in range(3):
                position = random_position(rng, names_of(engine), 60)
                if not wins_last(engine, position):
                    continue
                line = followed_last(engine, position, [rng.randrange(10 ** 18) for _ in range(150)])
                self.assertEqual(len(line) % 2, 0)
                ended += len(line) > 0
                self.assertEqual(count_moves(engine.house(), behind(engine.house(), position, line)), 0)
                now = position
                for index, move in enumerate(line):
                    if index % 2 == 0:
                        self.assertEqual(move, best_last(engine, now))
                    now = moved(engine.house(), now, move)
        self.assertGreater(ended, 40)

    def test_as_far_as_the_numbers_last(self):
        engine = example_engine()
        position = [("r", MOST_HEAP), ("r", MOST_HEAP - 1), ("r", 10 ** 17 + 3)]
        rng = random.Random(335)
        numbers = [rng.randrange(10 ** 18) for _ in range(30)]
        whole = followed_last(engine, position, numbers)
        self.assertEqual(len(whole), 61)
        for many in range(30):
            line = followed_last(engine=engine, position=position, numbers=numbers[:many])
            self.assertEqual(line, whole[:2 * many + 1])

    def test_no_move_left(self):
        engine = example_engine()
        for position in ([], [("r", 2)], [("r", 2), ("r", 2)]):
            for numbers in ([], (), [5, 6, 7]):
                self.assertEqual(followed_last(engine, position, numbers), [])
            self.refuses(BadNumbers, {"index": 1}, followed_last, engine, position, [0, None])
            self.refuses(BadNumbers, {"index": 0}, followed_last, engine, position, 5)
        self.assertEqual(followed_last(engine, [("r", 1), ("r", 1)], [0, 5]), [("r", 1, []), ("r", 1, [])])
        self.assertEqual(followed_last(engine, [("r", 1), ("r", 1)], []), [("r", 1, [])])

    def test_lost_ones(self):
        engine = example_engine()
        for position in ([("r", 1)], [("r", 6), ("r", 2)], [("r", 4), ("r", 9)], [("r", 1)] * 3):
            for numbers in ([], [1], None, [None], 7):
                self.refuses(LostHere, {}, followed_last, engine, position, numbers)

    def test_errors_in_their_order(self):
        engine = mixed_engine()
        for thing in odd_things():
            self.refuses(BadEngine, {"thing": thing}, followed_last, thing, None, None)
            if not isinstance(thing, (list, tuple)):
                self.refuses(BadPosition, {"index": 0}, followed_last, engine, thing, None)
                self.refuses(BadNumbers, {"index": 0}, followed_last, engine, EXAMPLE, thing)
            if thing != ["p", 1]:
                self.refuses(BadPosition, {"index": 1}, followed_last, engine, [("q", 1), thing], None)
        for position, kind, name in NOT_ALL_TAME:
            self.refuses(getattr(errors, kind), {"name": name}, followed_last, engine, position, None)
        for thing in no_numbers(odd_things()):
            self.refuses(BadNumbers, {"index": 2}, followed_last, engine, EXAMPLE, [0, 10 ** 18, thing, None])
            self.refuses(BadNumbers, {"index": 0}, followed_last, engine, EXAMPLE, [thing])

    def test_told_ones_are_new(self):
        engine, numbers = example_engine(), [3, 1, 4, 1, 5]
        line = followed_last(engine, EXAMPLE, numbers)
        self.assertEqual([type(part) for part in (line, line[0]) + line[0]], [list, tuple, str, int, list])
        options = [move[2] for move in line]
        self.assertEqual(len({id(option) for option in options}), len(options))
        want = [(name, heap, list(option)) for name, heap, option in line]
        for option in options:
            option.append(1)
        self.assertEqual(followed_last(engine, EXAMPLE, numbers), want)
        self.assertEqual(numbers, [3, 1, 4, 1, 5])

    def test_to_the_limits(self):
        began = time.monotonic()
        rng = random.Random(336)
        names = ["a", "b", "c", "d", "e", "f", "g", "h"]
        for book in TAMES[1:4]:
            least = found_paper(book, 250)
            paper = led_paper(least, 60, 2 * least[1])
            engine = Engine(House([(name, book) for name in names]), {name: paper for name in names})
            position = [(rng.choice(names), rng.randint(MOST_HEAP // 2, MOST_HEAP)) for _ in range(60)]
            if not wins_last(engine, position):
                position.pop()
            if wins_last(engine, position):
                self.assertEqual(len(followed_last(engine, position, [rng.randrange(10 ** 18) for _ in range(60)])), 121)
        self.assertLess(time.monotonic() - began, 25)


def plain_first_off(rules, most):
    """By going through all lists of heaps, by their sums, and through all plays of them."""
    plays, told = PlainPlays(House([("a", Book(rules))])), plain_values(rules, most)
    for total in range(most + 1):
        rows = [row for size in range(total + 1) for row in itertools.combinations_with_replacement(range(1, total + 1), size)
                if sum(row) == total]
        for row in sorted(rows):
            survives = plays.under([("a", heap) for heap in row])[1]
            if survives == plain_lost([told[heap] for heap in row]):
                return list(row)
    return None


# Rules of books with the first list of heaps that the words fail of, found late, or of two heaps.
OFF = [
    ([(4, 4, "none", 0, 2), (1, 2, "two", 0, 1)], [3, 11]), ([(1, 1, "two", 0, 1), (4, 4, "one", 1, 5)], [3, 11]),
    ([(2, 8, "one", 0, 1), (4, 4, "two", 0, 2)], [14]), ([(3, 4, "none", 1, 2), (4, 5, "one", 0, 1), (5, 7, "one", 0, 1)], [14]),
    ([(0, 0, "two", 0, 1), (4, 8, "one", 0, 1), (5, 5, "one", 1, 3)], [13]),
]


class FirstOffTest(Refusals, unittest.TestCase):
    def test_examples(self):
        self.assertEqual(first_off(P, 5), [5])
        self.assertEqual(first_off(book=P, most=14), [5])
        self.assertIsNone(first_off(P, 4))
        self.assertIsNone(first_off(P, 0))

    def test_against_going_through(self):
        found = {}
        for rules in many_rules(60, 341):
            want = plain_first_off(rules, 9)
            self.assertEqual(first_off(Book(rules), 9), want, rules)
            found[sum(want or [])] = True
            if want:
                self.assertEqual(first_off(Book(rules), sum(want)), want)
                self.assertIsNone(first_off(Book(rules), sum(want) - 1))
        self.assertGreater(len(found), 4)

    def test_late_ones(self):
        for rules, want in OFF:
            most = sum(want)
            self.assertEqual(first_off(Book(rules), 14), want)
            self.assertEqual(first_off(Book(rules), most), want)
            self.assertIsNone(first_off(Book(rules), most - 1))
            survives = PlainPlays(House([("a", Book(rules))])).under([("a", heap) for heap in want])[1]
            told = plain_values(rules, most)
            self.assertEqual(survives, plain_lost([told[heap] for heap in want]))

    def test_tame_books(self):
        for book in TAMES + [EMPTY]:
            self.assertIsNone(first_off(book, 14))

    def test_all_that_may_be_asked(self):
        for book, most in itertools.product((P, Q, R, N, EMPTY), range(15)):
            told = first_off(book, most)
            self.assertTrue(told is None or sum(told) <= most)
            if told is not None:
                told.clear()
                self.assertNotEqual(first_off(book, most), [])

    def test_refusals(self):
        for thing in odd_things():
            if not isinstance(thing, Book):
                self.refuses(BadBook, {"thing": thing}, first_off, thing, None)
        for thing in no_numbers(odd_things()) + [15, 16, 10 ** 9]:
            self.refuses(BadNumber, {"thing": thing}, first_off, P, thing)

    def test_to_the_limits(self):
        began = time.monotonic()
        for rules in many_rules(40, 342):
            first_off(Book(rules), 14)
        self.assertLess(time.monotonic() - began, 10)


if __name__ == "__main__":
    unittest.main()
