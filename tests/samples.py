"""Books, papers and odd things that the tests share, and plain ways to reckon what the package tells."""

import itertools
import random

from takeandsplit.books import Book
from takeandsplit.houses import House

MOST_HEAP = 10 ** 18

P_RULES = [(1, 2, "one", 0, 1), (2, 2, "none", 0, 1), (0, 0, "two", 1, 3)]
Q_RULES = [(1, 1, "none", 0, 1), (2, None, "one", 0, 1)]
R_RULES = [(1, 1, "none", 0, 1), (2, 3, "one", 0, 1)]
N_RULES = [(1, 2, "none", 0, 1), (1, 2, "one", 0, 1), (1, 1, "two", 0, 2)]

P = Book(P_RULES)
Q = Book(Q_RULES)
R = Book(R_RULES)
N = Book(N_RULES)
EMPTY = Book([])
HOUSE = House([("p", P), ("q", Q), ("r", R), ("n", N)])

R_PAPER = (1, 5, 0, [0, 1, 0, 0, 2, 1])
Q_PAPER = (4, 2, 1, [0, 1, 0, 0, 2, 2])

RESERVED = ("take to or more leave none one two when of book begin period gain value "
            "win lose move watch hold").split()


def some_function():
    return 0


def odd_things():
    """Things of every kind."""
    return [
        0, 1, 2, -1, -7, MOST_HEAP, MOST_HEAP + 1, 10 ** 30, True, False, None,
        "", "p", "P", "p1", "1p", "take", "win", "x" * 8, "x" * 9, "p ", "\n", "none", "one", "\u00e9", "\u0663",
        [], (), {}, [0], [1], (1,), [1, 2], (2, 1), [1, 1, 1], [None], [[]], [True], ["p"], ["p", 1], ("p", 0),
        {"p": 1}, {0: 0}, [("p", 1)], (("p", True),), [["p", 4], ("r", 5)], [[("p", 1)]],
        (1, 1, "none", 0, 1), [1, 1, "none", 0, 1], [(1, 1, "none", 0, 1)], R_PAPER, list(R_PAPER), Q_PAPER,
        ([], "win", None), ([], "move", ("p", 3, [2])),
        some_function, len, Book, P, Q, EMPTY, HOUSE, House([]), [P], [("p", P)], (("p", P), ("p", P)),
    ]


def plain_options(rules, heap):
    """The options of a heap, by going through all that may be taken."""
    found = []
    for low, high, left, rest, modulus in rules:
        if heap % modulus != rest:
            continue
        for taken in range(low, heap + 1):
            if high is not None and taken > high:
                break
            over = heap - taken
            if left == "none" and over == 0:
                found.append([])
            if left == "one" and over >= 1:
                found.append([over])
            if left == "two":
                found.extend([first, over - first] for first in range(1, over) if first <= over - first)
    return [list(option) for option in sorted({tuple(option) for option in found})]


def value_of(values, option):
    value = 0
    for heap in option:
        value ^= values[heap]
    return value


def plain_values(rules, most):
    """The values of 0 to most, by the plain rule."""
    values = [0]
    for heap in range(1, most + 1):
        seen = {value_of(values, option) for option in plain_options(rules, heap)}
        values.append(next(number for number in itertools.count() if number not in seen))
    return values


def random_rule(rng, grows):
    if grows and rng.random() < 0.4:
        return (rng.randint(1, 5), None, rng.choice(["none", "one"]), 0, 1)
    left = rng.choice(["none", "one"] if grows else ["none", "one", "two"])
    low = rng.randint(0 if left == "two" else 1, 5)
    high = low if rng.random() < 0.5 else rng.randint(low, 8)
    modulus = rng.choice([1, 1, 2, 3, 5])
    return (low, high, left, rng.randrange(modulus), modulus)


def random_rules(rng):
    """Rules of a book, with growing ones or ones that split, or without any."""
    grows = rng.random() < 0.4
    return list(dict.fromkeys(random_rule(rng, grows) for _ in range(rng.randint(0, 5))))


def many_rules(count, seed):
    rng = random.Random(seed)
    return [[], P_RULES, Q_RULES, R_RULES, N_RULES] + [random_rules(rng) for _ in range(count)]


def place_of(text, size):
    """The place (line, sign) of the sign of a text that so many signs stand ahead of."""
    ahead = text[:size]
    return (ahead.count("\n") + 1, size - (ahead.rfind("\n") + 1) + 1)


def first_fault(text, goes_on, reads):
    """The first wrong sign by asking of each beginning of a text whether one goes on from it."""
    for size in range(1, len(text) + 1):
        if not goes_on(text[:size]):
            return place_of(text, size - 1)
    return None if reads(text) else place_of(text, len(text))


def signs_otherwise(text, signs):
    """All texts with one sign otherwise, left out, or put in."""
    for at in range(len(text) + 1):
        for sign in signs:
            yield text[:at] + sign + text[at:]
            if at < len(text) and sign != text[at]:
                yield text[:at] + sign + text[at + 1:]
        if at < len(text):
            yield text[:at] + text[at + 1:]
