"""Points 3 and 9: names and houses."""

import itertools
import unittest

from takeandsplit.books import Book
from takeandsplit.errors import BadBooks, NoName
from takeandsplit.houses import House
from tests.samples import HOUSE, N, P, Q, R, RESERVED, odd_things

NAMES = ["a", "z", "p", "p1", "a2345678", "abcdefgh", "takes", "tak", "take1", "put", "z9", "x0x0", "begins", "close"]
NO_NAMES = RESERVED + ["", "1", "1a", "P", "pQ", "p ", " p", "p-", "p_1", "p.q", "abcdefghi", "p\n", "\u00e9", "a\u0663",
                       "\uff41", "a\u00b2"]


def index_of(books):
    """The index that a House refuses, None if it does not."""
    try:
        House(books)
    except BadBooks as error:
        return error.index
    return None


class HousesTest(unittest.TestCase):
    def test_books_by_names(self):
        pairs = [("n", N), ("p", P), ("q", Q), ("r", R)]
        for books in itertools.permutations(pairs):
            self.assertEqual(House(list(books)).books(), pairs)
            self.assertEqual(House(tuple(list(pair) for pair in books)), HOUSE)
        self.assertEqual([name for name, _ in House([("b", P), ("a10", P), ("a2", P), ("a", P)]).books()],
                         ["a", "a10", "a2", "b"])

    def test_names(self):
        for name in NAMES:
            self.assertEqual(House([(name, P)]).books(), [(name, P)])
            self.assertEqual(House([(name, P)]).book(name), P)
        for name in NO_NAMES:
            self.assertEqual(index_of([("x", P), (name, P)]), 1, name)

    def test_odd_things_at_every_place(self):
        ahead = [("a", P), ("b", Q), ("c", R)]
        for thing in odd_things():
            for at in range(4):
                self.assertEqual(index_of(ahead[:at] + [thing] + ahead[at:]), at)
            if not isinstance(thing, Book):
                self.assertEqual(index_of([("a", P), ("d", thing)]), 1)
            if thing not in ("p", "p1", "x" * 8):
                self.assertEqual(index_of([("a", P), ("b", P), (thing, P)]), 2)
        self.assertEqual(index_of([("a", P, P)]), 0)
        self.assertEqual(index_of([("a",)]), 0)

    def test_no_list(self):
        for thing in odd_things() + ["ab", {"a": P}]:
            if not isinstance(thing, (list, tuple)):
                self.assertEqual(index_of(thing), 0)

    def test_names_that_stood_before(self):
        self.assertEqual(index_of([("a", P), ("b", P), ("a", Q)]), 2)
        self.assertEqual(index_of([("a", P), ["a", P], ("a", Q)]), 1)

    def test_no_name(self):
        for thing in odd_things():
            if thing != "p":
                with self.assertRaises(NoName) as caught:
                    HOUSE.book(thing)
                self.assertIs(caught.exception.thing, thing)
        self.assertEqual(HOUSE.book(name="p"), P)
        self.assertEqual(House([]).books(), [])

    def test_equal(self):
        self.assertTrue(HOUSE == House(HOUSE.books()[::-1]))
        self.assertFalse(HOUSE != House(books=HOUSE.books()))
        self.assertTrue(HOUSE != House([("p", P)]))
        self.assertFalse(House([("p", P)]) == House([("q", P)]))
        self.assertFalse(House([("p", P)]) == House([("p", Q)]))
        for thing in odd_things() + [HOUSE.books()]:
            if not isinstance(thing, House):
                self.assertFalse(HOUSE == thing)
                self.assertTrue(HOUSE != thing)

    def test_kept_books_are_copies(self):
        books = [["p", P], ["q", Q]]
        house = House(books)
        books[0][1] = R
        books.pop()
        self.assertEqual(house.books(), [("p", P), ("q", Q)])
        house.books().clear()
        self.assertEqual(house.books(), [("p", P), ("q", Q)])
        self.assertTrue(all(type(pair) is tuple for pair in house.books()))

    def test_forty_books(self):
        house = House([(f"a{number}", P) for number in range(40)])
        self.assertEqual(len(house.books()), 40)
        self.assertEqual(house.book("a39"), P)


if __name__ == "__main__":
    unittest.main()
