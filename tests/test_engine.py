"""Point 43: engines."""

import itertools
import random
import unittest

from takeandsplit.books import Book
from takeandsplit.engine import Engine
from takeandsplit.errors import BadHouse, BadPapers, BadPosition, WrongPaper
from takeandsplit.houses import House
from takeandsplit.papers import is_paper, led_paper, value_at
from takeandsplit.sums import worth
from takeandsplit.values import values
from tests.engines import PAPERS, PQR, example_engine, many_engines, names_of
from tests.plainplay import Refusals, no_heaps, random_position
from tests.samples import EMPTY, HOUSE, MOST_HEAP, P, Q, R, Q_PAPER, R_PAPER, odd_things
from tests.test_looks import P_PAPER


class EngineTest(Refusals, unittest.TestCase):
    def test_example(self):
        engine = Engine(house=PQR, papers=PAPERS)
        position = [("p", 10), ("q", 5), ("r", 9)]
        self.assertEqual(engine.value(position), 3)
        self.assertIs(engine.wins(position), True)
        self.assertEqual(engine.value(position=[("p", 7), ("r", 4)]), 0)
        self.assertIs(engine.wins(position=[("p", 7), ("r", 4)]), False)
        self.assertEqual(engine.house(), PQR)
        self.assertEqual(engine.papers(), PAPERS)

    def test_values_are_those_of_worth(self):
        rng = random.Random(1)
        for engine in many_engines(40, 61):
            for _ in range(6):
                position = random_position(rng, names_of(engine), 120)
                self.assertEqual(engine.value(position), worth(engine.house(), position))
                self.assertEqual(engine.value(tuple(list(pair) for pair in position)), worth(engine.house(), position))
                self.assertIs(engine.wins(position), worth(engine.house(), position) != 0)

    def test_no_heaps(self):
        self.assertEqual(example_engine().value([]), 0)
        self.assertIs(example_engine().wins(()), False)
        nothing = Engine(House([]), {})
        self.assertEqual((nothing.papers(), nothing.value([])), ({}, 0))

    def test_great_heaps(self):
        engine = example_engine()
        position = [("p", MOST_HEAP), ("q", MOST_HEAP), ("r", MOST_HEAP), ("q", MOST_HEAP)]
        self.assertEqual(engine.value(position), 4 ^ value_at(R_PAPER, MOST_HEAP))
        self.assertEqual(engine.value(position[:2]), 4 ^ (MOST_HEAP // 2))

    def test_papers_are_told_by_names(self):
        engine = Engine(PQR, {"r": list(R_PAPER), "p": P_PAPER, "q": [4, 2, 1, tuple(Q_PAPER[3])]})
        told = engine.papers()
        self.assertEqual(list(told), ["p", "q", "r"])
        self.assertEqual(told, PAPERS)
        self.assertEqual({(type(paper), type(paper[3])) for paper in told.values()}, {(tuple, list)})
        self.assertEqual(engine, example_engine())

    def test_told_and_passed_ones_are_apart(self):
        told = [list(P_PAPER[3]), list(Q_PAPER[3]), list(R_PAPER[3])]
        papers = {name: PAPERS[name][:3] + (row,) for name, row in zip("pqr", told)}
        engine = Engine(PQR, papers)
        for row in told:
            row[1] = 9
        papers.clear()
        self.assertEqual(engine.papers(), PAPERS)
        once = engine.papers()
        once["p"][3].clear()
        del once["q"]
        self.assertEqual(engine.papers(), PAPERS)
        self.assertEqual(engine.value([("p", 4)]), 3)
        papers = {"r": R_PAPER}
        Engine(House([("r", R)]), papers)
        self.assertEqual(papers, {"r": R_PAPER})

    def test_longer_papers_are_right(self):
        for more, times in itertools.product((0, 2, 9), (1, 2, 5)):
            longer = {name: led_paper(paper, paper[0] + more, paper[1] * times) for name, paper in PAPERS.items()}
            engine = Engine(PQR, longer)
            self.assertEqual(engine.papers(), longer)
            self.assertEqual(engine == example_engine(), (more, times) == (0, 1))
            self.assertEqual(engine.value([("p", 999), ("q", 77)]), example_engine().value([("p", 999), ("q", 77)]))

    def test_equal_ones(self):
        engine = example_engine()
        self.assertTrue(engine == example_engine())
        self.assertFalse(engine != example_engine())
        swapped = Engine(House([("r", P), ("q", Q), ("p", R)]), {"r": P_PAPER, "p": R_PAPER, "q": Q_PAPER})
        fewer = Engine(House([("p", P), ("q", Q)]), {"p": P_PAPER, "q": Q_PAPER})
        alike = Engine(House([("p", P), ("q", Q), ("r", Book([(3, 3, "one", 0, 1), (2, 2, "one", 0, 1),
                                                                (1, 1, "none", 0, 1)]))]), PAPERS)
        for other in [swapped, fewer, alike, PQR, PAPERS] + odd_things():
            self.assertFalse(engine == other)
        self.assertTrue(Engine(House([]), {}) == Engine(House([]), {}))


class RefusalsTest(Refusals, unittest.TestCase):
    def test_houses(self):
        for thing in odd_things():
            if not isinstance(thing, House):
                self.refuses(BadHouse, {"thing": thing}, Engine, thing, None)

    def test_no_such_papers(self):
        more = [{"p": P_PAPER, "q": Q_PAPER}, {**PAPERS, "n": R_PAPER}, {**PAPERS, 1: R_PAPER}, {**PAPERS, None: None},
                {"p": P_PAPER, "q": Q_PAPER, "R": R_PAPER}, {}, list(PAPERS), list(PAPERS.items()), set(PAPERS)]
        for thing in odd_things() + more:
            self.refuses(BadPapers, {"thing": thing}, Engine, PQR, thing)
        for thing in ({"p": R_PAPER}, None, [], ()):
            self.refuses(BadPapers, {"thing": thing}, Engine, House([]), thing)

    def test_wrong_papers(self):
        for thing in odd_things():
            for name in "pqr":
                if not is_paper(thing):
                    self.refuses(WrongPaper, {"name": name}, Engine, PQR, {**PAPERS, name: thing})
        wrong = {"p": [P_PAPER[:3] + (P_PAPER[3][:-1] + [2],), R_PAPER, (11, 3, 1, P_PAPER[3]), (10, 3, 0, P_PAPER[3][:-1])],
                 "q": [R_PAPER, (4, 2, 0, Q_PAPER[3]), (4, 1, 0, Q_PAPER[3][:-1]), (3, 2, 1, Q_PAPER[3][:-1])],
                 "r": [Q_PAPER, P_PAPER, (1, 5, 1, R_PAPER[3]), (1, 4, 0, R_PAPER[3][:-1])]}
        for name, papers in wrong.items():
            for paper in papers:
                self.refuses(WrongPaper, {"name": name}, Engine, PQR, {**PAPERS, name: paper})
        self.refuses(WrongPaper, {"name": "q"}, Engine, PQR, {"r": None, "q": R_PAPER, "p": P_PAPER})
        self.refuses(WrongPaper, {"name": "p"}, Engine, PQR, {"r": None, "q": None, "p": None})
        self.refuses(WrongPaper, {"name": "a"}, Engine, House([("a", EMPTY)]), {"a": (1, 1, 0, [0, 1])})

    def test_one_value_otherwise(self):
        for engine in many_engines(12, 62):
            papers = engine.papers()
            for name, paper in papers.items():
                for at in range(1, len(paper[3]), 2):
                    row = paper[3][:at] + [paper[3][at] + 1] + paper[3][at + 1:]
                    changed = {**papers, name: paper[:3] + (row,)}
                    self.refuses(WrongPaper, {"name": name}, Engine, engine.house(), changed)

    def test_short_papers_right_as_far_as_they_go(self):
        told = values(P, 40)
        for begin, period in itertools.product(range(1, 11), (3, 6)):
            papers = {**PAPERS, "p": (begin, period, 0, told[:begin + period])}
            self.refuses(WrongPaper, {"name": "p"}, Engine, PQR, papers)

    def test_positions(self):
        engine = example_engine()
        for work in (engine.value, engine.wins):
            for thing in odd_things():
                if not isinstance(thing, (list, tuple)):
                    self.refuses(BadPosition, {"index": 0}, work, thing)
                if thing != ["p", 1]:
                    self.refuses(BadPosition, {"index": 1}, work, [("q", 7), thing, None])
            for thing in no_heaps(odd_things()):
                self.refuses(BadPosition, {"index": 0}, work, [["p", thing]])
            self.refuses(BadPosition, {"index": 2}, work, [("q", 7), ("p", 1), ("n", 1)])
        self.assertNotEqual(engine.house(), HOUSE)


if __name__ == "__main__":
    unittest.main()
