"""Points 55, 56, 60 and 61: who wins where who takes last loses."""

import itertools
import random
import time
import unittest

from takeandsplit import errors
from takeandsplit.engine import Engine
from takeandsplit.errors import BadEngine, BadPosition
from takeandsplit.houses import House
from takeandsplit.lastwins import is_turned, wins_last
from takeandsplit.papers import led_paper
from tests.engines import example_engine, names_of
from tests.plainplay import PlainPlays, Refusals, random_position
from tests.samples import MOST_HEAP, R, R_PAPER, odd_things
from tests.tames import NOT_ALL_TAME, T, T_PAPER, mixed_engine, plain_lost, tame_engines, told_values


class WinsTest(unittest.TestCase):
    def test_by_all_plays(self):
        rng = random.Random(301)
        seen = {}
        for engine in tame_engines(60, 302):
            plays = PlainPlays(engine.house())
            for _ in range(8):
                position = random_position(rng, names_of(engine), rng.choice([5, 9, 13]))
                wins, survives = plays.under(position)[:2]
                self.assertIs(wins_last(engine, position), survives, (engine.house().books(), position))
                self.assertIs(is_turned(engine, position), wins != survives)
                low = max(told_values(engine, position), default=0) <= 1
                self.assertIs(is_turned(engine, position), low)
                seen[wins, survives, low] = True
        self.assertEqual(set(seen), {(True, True, False), (False, False, False), (True, False, True), (False, True, True)})

    def test_all_positions_of_few_heaps(self):
        engine = example_engine()
        plays = PlainPlays(engine.house())
        for most in range(4):
            for heaps in itertools.combinations_with_replacement(range(1, 8), most):
                position = [("r", heap) for heap in heaps]
                self.assertIs(wins_last(engine, position), plays.under(position)[1])

    def test_by_the_words(self):
        rng = random.Random(303)
        for engine in tame_engines(40, 304):
            for _ in range(20):
                position = [(rng.choice(names_of(engine)), rng.choice([rng.randint(1, 30), rng.randint(1, MOST_HEAP)]))
                            for _ in range(rng.randint(0, 6))]
                told = told_values(engine, position)
                self.assertIs(wins_last(engine, position), not plain_lost(told))
                self.assertIs(wins_last(engine, tuple(list(pair) for pair in position)), not plain_lost(told))
                self.assertIs(is_turned(engine, position), max(told, default=0) <= 1)

    def test_no_heaps(self):
        for engine in (example_engine(), mixed_engine(), Engine(House([]), {})):
            for nothing in ([], ()):
                self.assertIs(wins_last(engine, nothing), True)
                self.assertIs(is_turned(engine, nothing), True)

    def test_all_low_and_one_high(self):
        """Heaps of r: 1 and 6 have the value 1, 2 and 3 the value 0, 4 the value 2."""
        engine = example_engine()
        for ones, noughts in itertools.product(range(5), range(3)):
            low = [("r", (1, 6)[at % 2]) for at in range(ones)] + [("r", (2, 3)[at % 2]) for at in range(noughts)]
            self.assertIs(wins_last(engine, low), ones % 2 == 0)
            self.assertIs(is_turned(engine, low), True)
            self.assertIs(wins_last(engine, low + [("r", 4)]), True)
            self.assertIs(is_turned(engine, low + [("r", 4)]), False)
            self.assertIs(wins_last(engine, low + [("r", 4), ("r", 9)]), ones % 2 == 1)

    def test_examples(self):
        engine = example_engine()
        rows = [[1], [1, 1], [3], [4]]
        told = [wins_last(engine=engine, position=[("r", heap) for heap in row]) for row in rows]
        self.assertEqual(told, [False, True, True, True])
        self.assertIs(is_turned(engine=engine, position=[("r", 4)]), False)
        self.assertIs(is_turned(engine=engine, position=[("r", 1)]), True)

    def test_books_that_are_not_in_the_position_matter_not(self):
        engine = mixed_engine()
        self.assertIs(wins_last(engine, [("r", 1), ("t", 1)]), True)
        self.assertIs(wins_last(engine, [("t", 4)]), False)
        self.assertIs(is_turned(engine, [("t", 4), ("t", 2)]), False)

    def test_facts(self):
        rng = random.Random(305)
        for engine in tame_engines(40, 306):
            heaps = [(name, heap) for name in names_of(engine) for heap in range(1, 40)]
            noughts = [pair for pair in heaps if engine.value([pair]) == 0]
            lows = [pair for pair in heaps if engine.value([pair]) <= 1]
            highs = [pair for pair in heaps if pair not in lows]
            for _ in range(10):
                position = [rng.choice(heaps) for _ in range(rng.randint(1, 5))]
                wins = wins_last(engine, position)
                if noughts:
                    self.assertIs(wins_last(engine, position + [rng.choice(noughts)]), wins)
                if lows:
                    self.assertIs(wins_last(engine, position + [rng.choice(lows)] * 2), wins)
                if max(told_values(engine, position)) > 1:
                    self.assertIs(wins, engine.wins(position))
                if highs and lows:
                    low = [rng.choice(lows) for _ in range(rng.randint(0, 4))]
                    self.assertIs(wins_last(engine, low + [rng.choice(highs)] * 2), not wins_last(engine, low))

    def test_longer_papers(self):
        house = House([("r", R), ("t", T)])
        one = Engine(house, {"r": R_PAPER, "t": T_PAPER})
        other = Engine(house, {"r": led_paper(R_PAPER, 90, 45), "t": led_paper(T_PAPER, 100, 99)})
        rng = random.Random(307)
        for _ in range(40):
            position = [(rng.choice("rt"), rng.choice([rng.randint(1, 300), MOST_HEAP - rng.randint(0, 99)])) for _ in range(4)]
            self.assertEqual(wins_last(one, position), wins_last(other, position))

    def test_to_the_limits(self):
        began = time.monotonic()
        names = ["a", "b", "c", "d", "e", "f", "g", "h"]
        engine = Engine(House([(name, R) for name in names]), {name: led_paper(R_PAPER, 100, 95) for name in names})
        rng = random.Random(308)
        for _ in range(100):
            position = [(rng.choice(names), rng.randint(1, MOST_HEAP)) for _ in range(60)]
            self.assertIs(wins_last(engine, position), not plain_lost(told_values(engine, position)))
        self.assertLess(time.monotonic() - began, 15)


class RefusalsTest(Refusals, unittest.TestCase):
    def test_in_their_order(self):
        for work in (wins_last, is_turned):
            for thing in odd_things():
                self.refuses(BadEngine, {"thing": thing}, work, thing, None)
                if not isinstance(thing, (list, tuple)):
                    self.refuses(BadPosition, {"index": 0}, work, mixed_engine(), thing)
                if thing != ["p", 1]:
                    self.refuses(BadPosition, {"index": 2}, work, mixed_engine(), [("q", 1), ("p", 3), thing, None])
            for position, kind, name in NOT_ALL_TAME:
                for row in itertools.islice(itertools.permutations(position), 8):
                    self.refuses(getattr(errors, kind), {"name": name}, work, mixed_engine(), row)
                    self.refuses(getattr(errors, kind), {"name": name}, work, mixed_engine(), [list(pair) for pair in row])


if __name__ == "__main__":
    unittest.main()
