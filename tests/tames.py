"""Engines of tame books that the tests share, where who takes last loses."""

import random

from takeandsplit.books import Book
from takeandsplit.engine import Engine
from takeandsplit.houses import House
from takeandsplit.looks import found_paper
from takeandsplit.papers import led_paper
from takeandsplit.takings import grows
from takeandsplit.tame import tame_fault
from tests.engines import PAPERS, papered_books
from tests.samples import P, Q, Q_PAPER, R, R_PAPER, value_of

T = Book([(1, 2, "none", 0, 1), (1, 2, "one", 0, 1)])
T_PAPER = (1, 3, 0, [0, 1, 2, 0])

# Tame books with values above 1, most of which leave two heaps.
TAMES = [T, R] + [Book(rules) for rules in (
    [(0, 3, "two", 0, 1), (2, 2, "one", 0, 1), (4, 5, "two", 0, 1)],
    [(0, 5, "two", 0, 1), (2, 2, "one", 1, 2)],
    [(0, 0, "two", 0, 5), (4, 5, "one", 2, 3)],
    [(1, 8, "none", 0, 2), (2, 2, "two", 1, 3), (3, 4, "one", 0, 3)],
    [(2, 2, "two", 2, 3), (3, 6, "one", 0, 1), (5, 5, "one", 0, 1)],
    [(1, 1, "two", 0, 2), (4, 4, "one", 0, 1)],
    [(2, 2, "one", 0, 1), (3, 3, "one", 0, 2), (4, 4, "two", 1, 5), (5, 5, "none", 0, 1), (5, 8, "none", 0, 1)],
    [(1, 1, "one", 1, 2), (1, 1, "two", 0, 1)],
    [(3, 3, "none", 0, 1), (3, 3, "two", 2, 5)],
    [(1, 8, "none", 0, 1), (3, 3, "one", 1, 2), (3, 3, "two", 0, 1), (5, 5, "none", 0, 3)],
    [(1, 6, "none", 0, 1), (1, 6, "one", 0, 1)],
    [(2, 4, "none", 0, 1), (2, 4, "one", 0, 1)],
    [(1, 1, "none", 0, 1), (1, 1, "one", 0, 1), (4, 4, "none", 0, 1), (4, 4, "one", 0, 1)],
)]


def alone_engine(book, paper):
    return Engine(House([("a", book)]), {"a": paper})


def tame_pairs(count, seed):
    """Pairs of a tame book and a paper, perhaps a longer one than need be."""
    rng = random.Random(seed)
    pairs = [(book, found_paper(book, 250)) for book in TAMES]
    for book, paper in papered_books(count, seed):
        if not grows(book) and tame_fault(alone_engine(book, paper), "a") is None:
            pairs.append((book, paper))
    return [(book, led_paper(paper, paper[0] + 3, 2 * paper[1]) if rng.random() < 0.2 else paper) for book, paper in pairs]


def tame_engines(count, seed):
    """Engines with one to three tame books, those of TAMES more often than others."""
    rng = random.Random(seed)
    pairs = tame_pairs(2 * count, seed)
    for _ in range(count):
        size = rng.randint(1, 3)
        chosen = [rng.choice(pairs[:len(TAMES)] if rng.random() < 0.7 else pairs) for _ in range(size)]
        names = rng.sample(["a", "b", "c1", "z", "x9"], size)
        yield Engine(House([(name, book) for name, (book, _) in zip(names, chosen)]),
                     {name: paper for name, (_, paper) in zip(names, chosen)})


def mixed_engine():
    """Tame books as r and t, growing ones as c and q, ones that are not tame as b and p."""
    house = House([("c", Q), ("q", Q), ("b", P), ("p", P), ("r", R), ("t", T)])
    return Engine(house, {"c": Q_PAPER, "q": Q_PAPER, "b": PAPERS["p"], "p": PAPERS["p"], "r": R_PAPER, "t": T_PAPER})


# Pairs of what stands first in positions of mixed_engine, and what is raised with a name.
NOT_ALL_TAME = [
    ([("q", 1)], "HasGrowing", "q"), ([("q", 1), ("c", 5)], "HasGrowing", "c"), ([("p", 1)], "NotTame", "p"),
    ([("p", 1), ("b", 3)], "NotTame", "b"), ([("b", 1), ("p", 2), ("q", 3)], "HasGrowing", "q"),
    ([("r", 1), ("p", 1), ("t", 2)], "NotTame", "p"), ([("t", 1), ("q", 9), ("r", 3)], "HasGrowing", "q"),
    ([("q", 2), ("p", 2), ("c", 2), ("b", 2)], "HasGrowing", "c"),
]


def plain_lost(told):
    """By the words of point 55, of the values of all heaps."""
    value = value_of(dict(enumerate(told)), range(len(told)))
    return value == 0 if any(each > 1 for each in told) else value == 1


def told_values(engine, position):
    return [engine.value([pair]) for pair in position]
