"""Points 7 and 8: rules and books."""

import itertools
import unittest

from takeandsplit.books import Book
from takeandsplit.errors import BadRules, HeapError
from tests.samples import EMPTY, MOST_HEAP, N, N_RULES, P, P_RULES, Q, Q_RULES, odd_things

GOOD = [
    (1, 1, "none", 0, 1), (1, None, "one", 0, 1), (7, None, "none", 0, 1), (0, 0, "two", 0, 1), (0, 12, "two", 5, 6),
    (3, 3, "one", 1, 2), (1, 10 ** 19, "one", 0, 10 ** 19 - 1), (2, 3, "two", 0, 1),
]
BAD = [
    (0, 0, "none", 0, 1), (0, 3, "one", 0, 1), (0, None, "none", 0, 1), (2, 1, "one", 0, 1), (-1, 2, "two", 0, 1),
    (1, None, "two", 0, 1), (1, None, "one", 0, 2), (1, None, "one", 1, 2), (1, 1, "none", 1, 1), (1, 1, "none", 2, 2),
    (1, 1, "none", 0, 0), (1, 1, "none", -1, 2), (1, 1, "three", 0, 1), (1, 1, "", 0, 1), (1, 1, None, 0, 1),
    (True, 1, "none", 0, 1), (1, True, "none", 0, 1), (1, 1, "none", False, 1), (1, 1, "none", 0, True),
    (None, 1, "none", 0, 1), (1, 1, "none", None, 1), (1, 1, "none", 0, None), (1, "1", "none", 0, 1),
    ("1", 1, "none", 0, 1), (1, 1, ["none"], 0, 1), (1, 1, 1, 0, 1), (1, [], "none", 0, 1),
    (1, 1, "none", 0), (1, 1, "none", 0, 1, 1), (1, 1), (), "take 1 leave none", {}, P,
]


def index_of(rules):
    """The index that a Book refuses, None if it does not."""
    try:
        Book(rules)
    except BadRules as error:
        return error.index
    return None


class BooksTest(unittest.TestCase):
    def test_rules_ascend_as_lines(self):
        told = [(0, 0, "two", 1, 3), (1, 2, "one", 0, 1), (2, 2, "none", 0, 1)]
        for rules in itertools.permutations(P_RULES):
            self.assertEqual(Book(list(rules)).rules(), told)
        by_lines = [(1, 1, "none", 0, 1), (1, 1, "none", 0, 2), (1, None, "none", 0, 1), (1, 10, "none", 0, 1),
                    (1, 2, "none", 0, 1), (10, 10, "none", 0, 1), (2, 2, "none", 0, 1)]
        self.assertEqual(Book(by_lines[::-1]).rules(), by_lines)

    def test_no_rules(self):
        self.assertEqual(Book([]).rules(), [])
        self.assertEqual(Book(()).rules(), [])

    def test_each_good_rule(self):
        for rule in GOOD:
            self.assertEqual(Book([rule]).rules(), [rule])
            self.assertEqual(Book((list(rule),)).rules(), [rule])

    def test_each_bad_rule_at_every_place(self):
        ahead = [(9, 9, "none", 0, 1), (9, 9, "one", 0, 1), (8, 9, "one", 0, 1)]
        for bad in BAD:
            for at in range(len(ahead) + 1):
                self.assertEqual(index_of(ahead[:at] + [bad] + ahead[at:]), at, bad)
                self.assertEqual(index_of(tuple(ahead[:at]) + (bad, None)), at, bad)

    def test_odd_things(self):
        for thing in odd_things():
            if not isinstance(thing, (list, tuple)) or len(thing) != 5:
                self.assertEqual(index_of([(9, 9, "none", 0, 1), thing]), 1)

    def test_odd_parts_of_a_rule(self):
        good = {0: [1, 2], 1: [2, MOST_HEAP, MOST_HEAP + 1, 10 ** 30, None], 2: ["none", "one"], 3: [0, 1, 2],
                4: [2, MOST_HEAP, MOST_HEAP + 1, 10 ** 30]}
        for part in range(5):
            for thing in odd_things():
                rule = [2, 2, "none", 1 if part == 4 else 0, 3 if part == 3 else 1]
                rule[part] = thing
                fine = any(thing is some or type(thing) is type(some) and thing == some for some in good[part])
                self.assertEqual(index_of([rule]), None if fine else 0, rule)

    def test_no_list(self):
        for thing in odd_things():
            if not isinstance(thing, (list, tuple)):
                self.assertEqual(index_of(thing), 0)

    def test_rules_that_stood_before(self):
        self.assertEqual(index_of(P_RULES + [P_RULES[0]]), 3)
        self.assertEqual(index_of([P_RULES[0], list(P_RULES[0])]), 1)

    def test_growing_goes_with_no_two(self):
        grow, two, one = (3, None, "one", 0, 1), (0, 0, "two", 0, 1), (1, 1, "one", 0, 1)
        self.assertEqual(index_of([one, grow, two]), 2)
        self.assertEqual(index_of([two, one, grow, None]), 2)
        self.assertEqual(index_of([two, None, grow]), 1)
        self.assertIsNone(index_of([grow, one, (3, None, "none", 0, 1)]))

    def test_equal(self):
        self.assertTrue(P == Book([list(rule) for rule in reversed(P_RULES)]))
        self.assertFalse(P != Book(tuple(P_RULES)))
        self.assertFalse(P == Q)
        self.assertTrue(P != N)
        self.assertTrue(EMPTY == Book([]))
        for thing in odd_things() + [P_RULES, P.rules(), N_RULES]:
            if not isinstance(thing, Book):
                self.assertFalse(Q == thing)
                self.assertTrue(Q != thing)

    def test_kept_rules_are_copies(self):
        rules = [list(rule) for rule in Q_RULES]
        book = Book(rules)
        rules[0][0] = 5
        rules.append(None)
        self.assertEqual(book.rules(), Q_RULES)
        told = book.rules()
        told.clear()
        self.assertEqual(book.rules(), Q_RULES)
        self.assertIsNot(book.rules(), book.rules())
        self.assertTrue(all(type(rule) is tuple for rule in book.rules()))

    def test_passed_rules_are_not_changed(self):
        rules = [list(rule) for rule in reversed(P_RULES)]
        Book(rules)
        self.assertEqual(rules, [list(rule) for rule in reversed(P_RULES)])

    def test_by_name(self):
        self.assertEqual(Book(rules=P_RULES), P)
        with self.assertRaises(HeapError):
            Book(rules=None)

    def test_sixty_rules(self):
        rules = [(low, low + high, "one", 3, 10 ** 19 - 1) for low in range(1, 11) for high in range(6)]
        self.assertEqual(len(Book(rules).rules()), 60)


if __name__ == "__main__":
    unittest.main()
