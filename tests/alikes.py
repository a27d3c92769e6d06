"""Books and papers that the tests of books alike, of rules more and of rules fewer share."""

import random

from takeandsplit.books import Book
from takeandsplit.growing import growing_fault
from takeandsplit.looks import look_fault
from takeandsplit.papers import is_paper, led_paper
from takeandsplit.rules import rules_fault
from takeandsplit.takings import grows
from tests.engines import PAPERS, papered_books
from tests.samples import P, Q, R, odd_things, random_rule

T_RULES = [(1, 2, "none", 0, 1), (1, 2, "one", 0, 1)]
T = Book(T_RULES)
T_PAPER = (1, 3, 0, [0, 1, 2, 0])
U = Book([(1, 1, "none", 0, 1), (1, 1, "one", 0, 1)])
U_PAPER = (1, 2, 0, [0, 1, 0])
CHOSEN = [(P, PAPERS["p"]), (Q, PAPERS["q"]), (R, PAPERS["r"]), (T, T_PAPER), (U, U_PAPER)]

# Pairs of a book's rules and a rule more that changes only a late heap, with that heap.
LATE_MORE = [
    ([(4, 4, "one", 0, 3), (4, 4, "one", 1, 3), (4, 4, "one", 2, 5), (5, 5, "one", 1, 3), (5, 7, "one", 1, 2)],
     (5, 5, "one", 4, 5), (44, [39])),
    ([(5, 6, "one", 0, 1), (5, 6, "one", 4, 5)], (3, 3, "one", 3, 5), (38, [35])),
    ([(1, 1, "one", 0, 1), (2, 4, "none", 2, 3), (2, 8, "none", 0, 1), (4, 6, "one", 0, 1), (4, 8, "one", 0, 1)],
     (5, 5, "two", 1, 2), (21, [7, 9])),
    ([(0, 1, "two", 0, 1), (1, 2, "two", 0, 2), (3, 4, "two", 2, 3), (3, 6, "none", 0, 1), (4, 4, "none", 0, 2)],
     (4, 4, "two", 0, 1), (22, [1, 17])),
    ([(1, None, "none", 0, 1), (2, 8, "none", 0, 1), (4, None, "one", 0, 1), (5, 5, "one", 0, 1)],
     (3, 5, "one", 1, 5), (16, [13])),
    ([(1, 4, "one", 0, 1)], (6, 6, "two", 0, 1), (16, [5, 5])), ([(2, 2, "one", 2, 6)], (6, 6, "two", 2, 6), (20, [6, 8])),
    ([(1, 1, "one", 2, 4)], (2, 2, "two", 1, 4), (9, [3, 4])), ([(3, 5, "one", 1, 6)], (12, 12, "two", 1, 6), (25, [6, 7])),
    ([(11, None, "one", 0, 1)], (10, 11, "one", 0, 6), (66, [56])),
]
# The same of a rule of the book without which only a late heap has another value, with that heap and value.
LATE_FEWER = [
    ([(0, 1, "two", 0, 1), (1, 1, "none", 0, 3), (1, 4, "two", 2, 3), (4, 4, "two", 0, 3), (5, 8, "none", 0, 1)],
     (4, 4, "two", 0, 3), (33, 6)),
    ([(0, 0, "two", 0, 3), (1, 1, "one", 1, 2), (2, 2, "one", 2, 5)], (2, 2, "one", 2, 5), (22, 0)),
    ([(4, 4, "one", 4, 5), (4, 8, "one", 2, 3)], (4, 4, "one", 4, 5), (19, 0)),
    ([(4, 4, "one", 2, 3), (5, None, "none", 0, 1), (5, 8, "one", 2, 3)], (5, 8, "one", 2, 3), (17, 2)),
    ([(3, 5, "one", 0, 3), (4, 4, "one", 1, 3), (4, None, "none", 0, 1), (5, None, "one", 0, 1)], (4, 4, "one", 1, 3), (13, 2)),
    ([(10, 12, "one", 0, 1), (9, 10, "none", 0, 1), (10, None, "one", 0, 1), (11, None, "none", 0, 1)], (10, None, "one", 0, 1), (31, 1)),
    ([(7, None, "one", 0, 1), (9, None, "none", 0, 1), (9, 10, "one", 0, 1), (7, 10, "one", 0, 1)], (7, None, "one", 0, 1), (25, 1)),
    ([(1, None, "none", 0, 1), (5, 12, "one", 0, 6), (4, 10, "one", 1, 5), (6, 11, "one", 0, 1), (12, 12, "one", 0, 1)],
     (5, 12, "one", 0, 6), (198, 1)),
]


def many_pairs(count, seed):
    """Pairs of a book and a right paper: chosen ones, and many others."""
    return CHOSEN + list(papered_books(count, seed))


def written_otherwise(rng, rules):
    """Other rules that let the same be taken: spans in two parts, moduli twice as great."""
    other = []
    for low, high, left, rest, modulus in rules:
        if high is not None and low < high and rng.random() < 0.6:
            middle = rng.randrange(low, high)
            other += [(low, middle, left, rest, modulus), (middle + 1, high, left, rest, modulus)]
        elif high is not None and rng.random() < 0.3:
            other += [(low, high, left, rest, 2 * modulus), (low, high, left, rest + modulus, 2 * modulus)]
        else:
            other.append((low, high, left, rest, modulus))
    other = list(dict.fromkeys(other))
    rng.shuffle(other)
    return other


def more_rules(rng, book, count):
    """Some rules that are not the book's, and may stand beside its own."""
    found = []
    for _ in range(count):
        rule = random_rule(rng, grows(book) or rng.random() < 0.2)
        if rng.random() < 0.3 and rule[1] is not None:
            rule = (rule[0], rng.randint(rule[0], 12)) + rule[2:]
        if rules_fault(book.rules() + [rule]) is None:
            found.append(rule)
    return found


def is_right_plainly(book, thing):
    return is_paper(thing) and (growing_fault if grows(book) else look_fault)(book, thing) is None


def wrong_papers():
    """Things that are no right paper for P: of every kind, papers of others, one with a value otherwise, with a gain."""
    begin, period, gain, told = PAPERS["p"]
    near = [(begin, period, gain, told[:-1] + [2]), (begin, period, 1, told), (begin, period, gain, told[:-1]),
            (begin, 1, gain, told[:begin + 1]), (begin - 1, period, gain, told[:-1])]
    return near + [thing for thing in odd_things() if not is_right_plainly(P, thing)] + [T_PAPER, PAPERS["q"]]


def longer(paper, more, times):
    return led_paper(paper, paper[0] + more, paper[1] * times)
