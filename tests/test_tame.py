"""Points 53, 54 and 61: tame heaps and tame books."""

import itertools
import random
import time
import unittest

from takeandsplit.books import Book
from takeandsplit.engine import Engine
from takeandsplit.errors import BadEngine, BadHeap, HasGrowing, NoName
from takeandsplit.houses import House
from takeandsplit.looks import found_paper, look_end
from takeandsplit.options import is_option
from takeandsplit.papers import led_paper, value_at
from takeandsplit.takings import grows
from takeandsplit.tame import is_tame_fault, tame_by, tame_fault, tame_why
from takeandsplit.values import values
from tests.engines import SPLITTING, example_engine, papered_books
from tests.plainplay import Refusals, no_heaps
from tests.samples import EMPTY, MOST_HEAP, P, R, odd_things, plain_options, value_of

T = Book([(1, 2, "none", 0, 1), (1, 2, "one", 0, 1)])

# Rules of books with the first heap that is not tame, and the letter.
UNTAME = [
    ([(3, 3, "two", 0, 3)], (30, "c")), ([(2, 2, "two", 1, 3)], (16, "c")),
    ([(1, 4, "one", 0, 1), (1, 2, "two", 0, 3)], (7, "a")), ([(5, 6, "one", 0, 1), (0, 0, "two", 0, 1)], (13, "a")),
    ([(0, 1, "two", 0, 1), (1, 4, "two", 0, 2)], (9, "b")), ([(1, 2, "none", 0, 1), (5, 8, "two", 0, 1)], (23, "c")),
    ([(3, 3, "two", 0, 1), (1, 4, "one", 0, 1)], (11, "d")),
    ([(3, 4, "none", 0, 1), (1, 2, "two", 0, 1), (5, 6, "one", 0, 1)], (11, "b")),
    ([(4, 5, "one", 0, 1), (1, 2, "one", 0, 1), (0, 0, "two", 0, 1), (2, 3, "none", 0, 1)], (8, "b")),
    ([(3, 4, "one", 0, 1), (0, 0, "two", 0, 1), (1, 4, "one", 0, 1)], (6, "d")),
]
# The same of books of which one heap alone is not tame.
UNTAME_ONCE = [
    ([(4, 4, "two", 0, 2), (1, 2, "one", 0, 1), (5, 5, "none", 1, 2), (1, 2, "none", 0, 1)], (7, "a")),
    ([(4, 4, "two", 2, 3), (1, 2, "one", 1, 2), (2, 5, "none", 0, 1)], (15, "a")),
    ([(3, 3, "none", 0, 1), (0, 0, "two", 0, 1)], (6, "c")), ([(2, 5, "none", 0, 1), (0, 0, "two", 0, 2)], (8, "c")),
    ([(0, 0, "two", 0, 2), (5, 8, "none", 0, 1)], (12, "c")), ([(4, 4, "two", 0, 2), (1, 2, "one", 1, 2)], (14, "d")),
    ([(3, 6, "none", 0, 1), (4, 4, "two", 0, 3), (4, 5, "one", 0, 1)], (18, "d")),
]


def plain_tame(rules, told, heap):
    """(why, by) of a heap, by the words of point 53."""
    choices = plain_options(rules, heap)
    value = told[heap]
    low = [option for option in choices if all(told[part] <= 1 for part in option)]
    high = [option for option in choices if option not in low]

    def least(found):
        return sorted(found)[:1]

    def of(options, wanted):
        return [option for option in options if value_of(told, option) == wanted]

    by = []
    if value == 0 and choices:
        by = least(of(low, 1))
        if not by:
            return "a", None
    if value == 1:
        by = least(of(low, 0))
        if not by:
            return "b", None
    if value <= 1 and of(high, 1 - value):
        return "c", None
    if value > 1:
        shown = [least(of(low, 1 - x) + of(high, x)) for x in (0, 1)]
        if [] in shown:
            return "d", None
        by = shown[0] + shown[1]
    return None, by


def still_books(count, seed, most=120):
    """Pairs of a book without growing rules and its paper."""
    chosen = [Book(rules) for rules, _ in UNTAME + UNTAME_ONCE]
    pairs = [(book, found_paper(book, 190)) for book in chosen]
    return pairs + [(book, paper) for book, paper in papered_books(count, seed, most) if not grows(book)]


def engine_of(book, paper):
    return Engine(House([("a", book), ("q", Book([(1, None, "none", 0, 1)]))]), {"a": paper, "q": (1, 1, 0, [0, 1])})


class TameHeapsTest(unittest.TestCase):
    def test_by_the_words(self):
        letters = {}
        for book, paper in still_books(90, 121):
            engine, told = engine_of(book, paper), values(book, 40)
            for heap in range(1, 41):
                why, by = plain_tame(book.rules(), told, heap)
                letters[why] = True
                self.assertEqual(tame_why(engine, "a", heap), why, (book.rules(), heap))
                self.assertEqual(tame_by(engine, "a", heap), by, (book.rules(), heap))
        self.assertEqual(set(letters), {None, "a", "b", "c", "d"})

    def test_examples(self):
        engine = example_engine()
        self.assertEqual([tame_by(engine, "r", heap) for heap in (4, 3, 1, 2)], [[[1], [2]], [[1]], [[]], []])
        self.assertEqual([tame_why(engine=engine, name="p", heap=heap) for heap in (1, 4, 5)], [None, None, "a"])
        self.assertIsNone(tame_by(engine=engine, name="p", heap=5))
        nothing = engine_of(EMPTY, (1, 1, 0, [0, 0]))
        self.assertEqual((tame_why(nothing, "a", 9), tame_by(nothing, "a", 9)), (None, []))

    def test_great_heaps(self):
        """What is least in a great heap, shown by what is least in lesser ones of the same rests."""
        for book, paper in still_books(40, 122, 250):
            engine = engine_of(book, paper)
            last = look_end(book, paper[0], paper[1])
            # Beyond the look heaps that are alike by the period are alike tame, and by the same first letters.
            for heap in range(last + 1, last + paper[1] + 1):
                why = tame_why(engine, "a", heap)
                for great in (heap + paper[1], heap + (MOST_HEAP - heap) // paper[1] * paper[1]):
                    self.assertEqual(tame_why(engine, "a", great), why)
                    shown = tame_by(engine, "a", great)
                    self.assertEqual(shown is None, why is not None)
                    for option in shown or []:
                        self.assertTrue(is_option(book, great, option))
                        self.assertEqual(option, sorted(option))
                    if shown is not None:
                        self.assertEqual(len(shown), self.due(engine, book, great))

    def due(self, engine, book, heap):
        value = engine.value([("a", heap)])
        return 2 if value > 1 else int(value == 1 or any(is_option(book, heap, option) for option in self.some(book, heap)))

    def some(self, book, heap):
        """Options of a great heap, some of each rule that has any."""
        found = []
        for low, high, left, rest, modulus in book.rules():
            if heap % modulus == rest and left != "none":
                found += [[heap - low]] if left == "one" else [[1, heap - low - 1]]
        return found

    def test_great_ones_have_the_least_options(self):
        for book in [P] + SPLITTING:
            paper = found_paper(book, 250)
            engine = engine_of(book, paper)
            for heap in range(1, 121):
                why, by = plain_tame(book.rules(), values(book, 120), heap)
                self.assertEqual((tame_why(engine, "a", heap), tame_by(engine, "a", heap)), (why, by))
        engine = example_engine()
        for heap in (MOST_HEAP, MOST_HEAP - 1, MOST_HEAP - 2, 10 ** 17 + 1):
            rest = 1 + (heap - 1) % 5
            lesser = tame_by(engine, "r", rest + 5)
            moved = [[part + heap - rest - 5 for part in option] for option in lesser]
            self.assertEqual(tame_by(engine, "r", heap), moved)

    def test_told_ones_are_new(self):
        engine = example_engine()
        told = tame_by(engine, "r", 4)
        told[0].append(3)
        told.pop()
        self.assertEqual(tame_by(engine, "r", 4), [[1], [2]])


class TameBooksTest(unittest.TestCase):
    def test_examples(self):
        engine = example_engine()
        self.assertEqual(tame_fault(engine=engine, name="p"), (5, "a"))
        self.assertIsNone(tame_fault(engine, "r"))
        self.assertIs(is_tame_fault(engine=engine, name="p", thing=[5, "a"]), True)
        self.assertIs(is_tame_fault(engine, "p", (5, "c")), False)

    def test_by_going_through_far_heaps(self):
        tame = late = 0
        for book, paper in still_books(120, 123):
            engine, told = engine_of(book, paper), values(book, 160)
            faults = [(heap, plain_tame(book.rules(), told, heap)[0]) for heap in range(1, 100)]
            faults = [fault for fault in faults if fault[1] is not None]
            fault = tame_fault(engine, "a")
            self.assertEqual(fault, faults[0] if faults else None, book.rules())
            tame += fault is None
            if fault is not None:
                late = max(late, fault[0])
                self.assertLessEqual(fault[0], look_end(book, paper[0], paper[1]))
                self.assertEqual([type(fault), type(fault[0]), type(fault[1])], [tuple, int, str])
        self.assertGreater(tame, 10)
        self.assertGreater(late, 8)

    def test_not_tame_at_few_heaps(self):
        """Books of which only heaps beyond some bound are not tame, and those of one heap alone."""
        for rules in ([(number, number, "none", 0, 1)] for number in (1, 5, 12)):
            book = Book(rules)
            engine = engine_of(book, found_paper(book, 90))
            self.assertIsNone(tame_fault(engine, "a"))
        for rules, fault in UNTAME + UNTAME_ONCE:
            book = Book(rules)
            paper = found_paper(book, 190)
            engine = engine_of(book, paper)
            self.assertEqual(tame_fault(engine, "a"), fault)
            longer = engine_of(book, led_paper(paper, paper[0] + 7, paper[1] * 2))
            self.assertEqual(tame_fault(longer, "a"), fault)
            told = values(book, 150)
            faults = [heap for heap in range(1, 151) if plain_tame(rules, told, heap)[0] is not None]
            self.assertEqual(faults[0], fault[0])
            self.assertEqual(len(faults) == 1, (rules, fault) in UNTAME_ONCE)
        self.assertEqual(look_end(Book(UNTAME[1][0]), 2, 6), 17)

    def test_longer_papers_tell_the_same(self):
        for book, paper in still_books(50, 125):
            longer = led_paper(paper, paper[0] + 5, paper[1] * 3)
            one, other = engine_of(book, paper), engine_of(book, longer)
            self.assertEqual(tame_fault(one, "a"), tame_fault(other, "a"))
            for heap in (1, 2, 3, 9, 30, 77):
                self.assertEqual(tame_why(one, "a", heap), tame_why(other, "a", heap))
                self.assertEqual(tame_by(one, "a", heap), tame_by(other, "a", heap))

    def test_faults_of_any_heap(self):
        for book, paper in still_books(60, 126):
            engine, told = engine_of(book, paper), values(book, 60)
            for heap in range(1, 61):
                why = plain_tame(book.rules(), told, heap)[0]
                for letter in "abcd":
                    self.assertIs(is_tame_fault(engine, "a", (heap, letter)), letter == why)
            for heap in (MOST_HEAP, MOST_HEAP - 1):
                why = tame_why(engine, "a", heap)
                for letter in "abcd":
                    self.assertIs(is_tame_fault(engine, "a", [heap, letter]), letter == why)

    def test_things(self):
        engine = example_engine()
        more = [(5, "a", 0), (5,), ("a", 5), (5, None), (5, ["a"]), (0, "a"), (True, "a"), (MOST_HEAP + 5, "a"), ([5], "a"),
                {5: "a"}, {"a": 5, "b": 6}, "5a", (1, None), (4, None), (5, "A"), (5, "ab"), (5, "")]
        for thing in odd_things() + more:
            self.assertIs(is_tame_fault(engine, "p", thing), False)
            self.assertIs(is_tame_fault(engine, "r", thing), False)

    def test_numbers_taken_with_none_and_with_one(self):
        rng = random.Random(127)
        for _ in range(40):
            taken = sorted(rng.sample(range(1, 7), rng.randint(1, 3)))
            book = Book([(number, number, left, 0, 1) for number in taken for left in ("none", "one")])
            paper = found_paper(book, 190)
            if paper is None:
                continue
            engine = engine_of(book, paper)
            self.assertIsNone(tame_fault(engine, "a"))
            told = values(book, 90)
            for heap in range(1, 91):
                self.assertEqual(told[heap] == 1, heap >= taken[0] and told[heap - taken[0]] == 0)
                self.assertIsNone(tame_why(engine, "a", heap))

    def test_to_the_limits(self):
        began = time.monotonic()
        paper = led_paper(found_paper(P, 60), 140, 45)
        self.assertLessEqual(look_end(P, 140, 45), 400)
        self.assertEqual(tame_fault(engine_of(P, paper), "a"), (5, "a"))
        longer = led_paper((1, 5, 0, [0, 1, 0, 0, 2, 1]), 150, 45)
        self.assertIsNone(tame_fault(engine_of(R, longer), "a"))
        for book in SPLITTING:
            engine = engine_of(book, found_paper(book, 400))
            tame_fault(engine, "a")
        self.assertEqual(value_at(paper, 10 ** 18), 4)
        self.assertLess(time.monotonic() - began, 20)


class RefusalsTest(Refusals, unittest.TestCase):
    def test_in_their_order(self):
        engine = example_engine()
        works = [(tame_why, (None,)), (tame_by, (None,)), (tame_fault, ()), (is_tame_fault, (None,))]
        for (work, rest), thing in itertools.product(works, odd_things()):
            self.refuses(BadEngine, {"thing": thing}, work, thing, None, *rest)
            if thing != "p":
                self.refuses(NoName, {"thing": thing}, work, engine, thing, *rest)
            self.refuses(HasGrowing, {"name": "q"}, work, engine, "q", *(thing,)[:len(rest)])

    def test_heaps(self):
        engine = example_engine()
        for work, thing in itertools.product((tame_why, tame_by), no_heaps(odd_things())):
            self.refuses(BadHeap, {"thing": thing}, work, engine, "p", thing)
            self.refuses(BadHeap, {"thing": thing}, work, engine, "r", thing)


class FactsTest(unittest.TestCase):
    def test_books_that_may_take_none_or_one_alike(self):
        engine = engine_of(T, found_paper(T, 60))
        self.assertIsNone(tame_fault(engine, "a"))
        self.assertEqual(tame_by(engine, "a", 2), [[1], []])


if __name__ == "__main__":
    unittest.main()
