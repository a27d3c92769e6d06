"""Engines that the tests share: of the books of point 14, and of many kinds of books."""

import random

from takeandsplit.books import Book
from takeandsplit.engine import Engine
from takeandsplit.growing import growing_paper
from takeandsplit.houses import House
from takeandsplit.looks import found_paper
from takeandsplit.papers import led_paper
from takeandsplit.takings import grows
from tests.samples import P, Q, R, Q_PAPER, R_PAPER, many_rules
from tests.test_looks import P_PAPER

# Books that leave two heaps, with many values, early ones that do not come again, and periods of some length.
SPLITTING = [Book(rules) for rules in (
    [(5, 8, "none", 0, 1), (1, 1, "none", 0, 3), (4, 4, "two", 0, 3), (1, 4, "two", 2, 3), (0, 1, "two", 0, 1)],
    [(0, 1, "two", 0, 1), (4, 7, "none", 0, 1), (2, 5, "two", 0, 3)],
    [(4, 5, "two", 0, 1), (0, 3, "two", 0, 1), (2, 2, "one", 0, 1)],
    [(4, 4, "none", 0, 2), (0, 1, "two", 0, 1), (1, 2, "two", 0, 2), (3, 4, "two", 2, 3), (3, 6, "none", 0, 1)],
)]
PQR = House([("p", P), ("q", Q), ("r", R)])
PAPERS = {"p": P_PAPER, "q": Q_PAPER, "r": R_PAPER}


def example_engine():
    return Engine(PQR, PAPERS)


def right_paper(book, most):
    return growing_paper(book, most) if grows(book) else found_paper(book, most)


def papered_books(count, seed, most=190):
    """Pairs of a book and a right paper, perhaps a longer one than need be."""
    rng = random.Random(seed)
    for book in SPLITTING + [Book(rules) for rules in many_rules(count, seed)]:
        paper = right_paper(book, most)
        if paper is not None:
            if rng.random() < 0.3:
                paper = led_paper(paper, paper[0] + rng.randint(0, 4), paper[1] * rng.randint(1, 3))
            yield book, paper


def many_engines(count, seed):
    """Engines with two or three books of many kinds."""
    rng = random.Random(seed)
    pairs = list(papered_books(5 * count, seed))
    for _ in range(count):
        chosen = [rng.choice(pairs) for _ in range(rng.randint(2, 3))]
        names = rng.sample(["a", "b", "c1", "z", "x9"], len(chosen))
        yield Engine(House([(name, book) for name, (book, _) in zip(names, chosen)]),
                     {name: paper for name, (_, paper) in zip(names, chosen)})


def names_of(engine):
    return [name for name, _ in engine.house().books()]
