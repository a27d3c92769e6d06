"""Points 21 to 24: small positions by all plays, and how they go with worth."""

import itertools
import random
import time
import unittest

from takeandsplit.books import Book
from takeandsplit.errors import BadHouse, BadPosition
from takeandsplit.houses import House
from takeandsplit.searching import count_under, longest, shortest, survives_small, wins_small
from takeandsplit.sums import worth
from tests.plainplay import PlainPlays, Refusals, no_heaps, random_position
from tests.samples import EMPTY, HOUSE, many_rules, odd_things

ALL = (wins_small, survives_small, longest, shortest, count_under)
FULL = Book([(0, 3, "two", 0, 1), (1, 3, "one", 0, 1), (1, 3, "none", 0, 1)])


def houses(seed):
    """Houses of two or three books of many kinds."""
    books = [Book(rules) for rules in many_rules(40, seed)]
    random.Random(seed).shuffle(books)
    for first, second, third in zip(books[::3], books[1::3], books[2::3]):
        yield House([("a", first), ("b", second), ("z9", third)])


class SmallTest(unittest.TestCase):
    def same(self, house, position, plain):
        wins, survives, most, least, _ = plain.under(position)
        self.assertIs(wins_small(house, position), wins, position)
        self.assertIs(survives_small(house, position), survives, position)
        self.assertEqual(longest(house, position), most)
        self.assertEqual(shortest(house, position), least)
        self.assertEqual(count_under(house, position), len(plain.positions_under(position)))

    def test_against_all_plays(self):
        rng = random.Random(1)
        for house in [HOUSE] + list(houses(2)):
            plain = PlainPlays(house)
            names = [name for name, _ in house.books()][:3]
            for _ in range(12):
                self.same(house, random_position(rng, names, 9), plain)

    def test_all_lists_of_heaps_of_one_book(self):
        for rules in many_rules(25, 3):
            house = House([("x", Book(rules))])
            plain = PlainPlays(house)
            for heaps in [(), (1,), (2,), (5,), (8,), (1, 1), (2, 2), (3, 1), (1, 4, 2), (2, 2, 2), (1, 1, 1, 1)]:
                self.same(house, [("x", heap) for heap in heaps], plain)

    def test_order_and_kinds_of_rows_tell_nothing(self):
        position = [("p", 3), ("q", 2), ("p", 1), ("r", 4)]
        want = [work(HOUSE, position) for work in ALL]
        for row in itertools.permutations(position):
            self.assertEqual([work(HOUSE, tuple(list(pair) for pair in row)) for work in ALL], want)
        self.assertEqual(position, [("p", 3), ("q", 2), ("p", 1), ("r", 4)])

    def test_no_heaps(self):
        for house in (HOUSE, House([])):
            self.assertEqual([work(house, []) for work in ALL], [False, True, 0, 0, 1])
        self.assertEqual([work(House([("a", EMPTY)]), [("a", 9), ("a", 7)]) for work in ALL], [False, True, 0, 0, 1])

    def test_example(self):
        position = [("q", 3)]
        self.assertEqual([work(HOUSE, position) for work in ALL], [False, True, 2, 2, 3])
        self.assertIs(wins_small(house=HOUSE, position=position), False)
        self.assertIs(survives_small(house=HOUSE, position=position), True)
        self.assertEqual(longest(house=HOUSE, position=position), 2)
        self.assertEqual(shortest(house=HOUSE, position=position), 2)
        self.assertEqual(count_under(house=HOUSE, position=position), 3)

    def test_it_holds(self):
        rng = random.Random(4)
        for house in [HOUSE] + list(houses(5)):
            for _ in range(8):
                position = random_position(rng, [name for name, _ in house.books()][:3], 16)
                self.assertEqual(wins_small(house, position), worth(house, position) != 0)

    def test_two_beside_one_another(self):
        rng = random.Random(6)
        for house in [HOUSE] + list(houses(7)):
            first, second = [name for name, _ in house.books()][:2]
            for _ in range(5):
                one, two = random_position(rng, [first], 8), random_position(rng, [second], 8)
                for work in (longest, shortest):
                    self.assertEqual(work(house, one + two), work(house, one) + work(house, two))
                many = count_under(house, one) * count_under(house, two)
                self.assertEqual(count_under(house, two + one), many)

    def test_like_books_under_unlike_names(self):
        house = House([("a", FULL), ("b", FULL)])
        self.assertEqual(count_under(house, [("a", 2), ("b", 2)]), count_under(house, [("a", 2)]) ** 2)
        self.assertEqual(count_under(house, [("a", 1), ("b", 1)]), 4)
        self.assertEqual(count_under(house, [("a", 1), ("a", 1)]), 3)


class LimitsTest(unittest.TestCase):
    def test_sixteen_under_three_names(self):
        house = House([("a", FULL), ("b", FULL), ("c", FULL)])
        began = time.monotonic()
        for heaps in [(6, 5, 5), (16,), (8, 8), (10, 3, 3), (1,) * 16, (4, 4, 4, 4)]:
            position = [("abc"[at % 3], heap) for at, heap in enumerate(heaps)]
            self.assertEqual(wins_small(house, position), worth(house, position) != 0)
            survives_small(house, position)
            self.assertEqual(longest(house, position), sum(2 * heap - 1 for heap in heaps))
            shortest(house, position)
            count_under(house, position)
        self.assertEqual(count_under(house, [("a", 6), ("b", 5), ("c", 5)]), 30 * 19 * 19)
        self.assertLess(time.monotonic() - began, 20)

    def test_greater_ones_are_not_refused(self):
        position = [("r", 9), ("r", 8), ("q", 7)]
        self.assertEqual(wins_small(HOUSE, position), worth(HOUSE, position) != 0)
        self.assertEqual(longest(HOUSE, [("r", 100)]), 50)
        self.assertEqual(wins_small(HOUSE, [("r", 400)]), worth(HOUSE, [("r", 400)]) != 0)


class RefusalsTest(Refusals, unittest.TestCase):
    def test_houses_ahead_of_positions(self):
        for work, thing in itertools.product(ALL, odd_things()):
            if not isinstance(thing, House):
                self.refuses(BadHouse, {"thing": thing}, work, thing, [None])

    def test_positions(self):
        for work in ALL:
            for thing in odd_things():
                if not isinstance(thing, (list, tuple)):
                    self.refuses(BadPosition, {"index": 0}, work, HOUSE, thing)
                if thing != ["p", 1]:
                    self.refuses(BadPosition, {"index": 1}, work, HOUSE, [("p", 2), thing, None])
            for thing in no_heaps(odd_things()):
                self.refuses(BadPosition, {"index": 2}, work, HOUSE, [("p", 2), ("q", 1), ("p", thing)])
            self.refuses(BadPosition, {"index": 0}, work, HOUSE, [("x", 2)])


if __name__ == "__main__":
    unittest.main()
