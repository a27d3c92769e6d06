"""Points 10, 11 and 14: books as texts, and their first wrong signs."""

import itertools
import random
import unittest

from takeandsplit.books import Book
from takeandsplit.booktexts import book_fault, book_goes_on, book_text, read_book
from takeandsplit.errors import BadBook, BadText
from tests.samples import (EMPTY, N, P, P_RULES, Q, Q_RULES, R, first_fault, many_rules, odd_things, place_of,
                           signs_otherwise)
from tests.smalltexts import ALL_LINES, LINES, book_goes_on_plainly, book_reads_plainly, line_goes_on, small_numbers

P_TEXT = "take 0 leave two when 1 of 3\ntake 1 to 2 leave one\ntake 2 leave none\n"
Q_TEXT = "take 1 leave none\ntake 2 or more leave one\n"
MOST = 10 ** 19 - 1


class BookTextsTest(unittest.TestCase):
    def check(self, text, place):
        """The text's first wrong sign is at this place: all signs ahead of it can be led on, none with it."""
        self.assertEqual(book_fault(text), place, text)
        if place is None:
            self.assertEqual(book_goes_on(text), text)
            self.assertEqual(sorted(book_text(read_book(text)).split("\n")), sorted(text.split("\n")))
            return
        with self.assertRaises(BadText) as caught:
            read_book(text)
        self.assertEqual((caught.exception.line, caught.exception.sign), place)
        size = next(size for size in range(len(text) + 1) if place_of(text, size) == place)
        self.check_goes_on(text[:size])
        if size < len(text):
            for longer in (text[:size + 1], text):
                self.assertIsNone(book_goes_on(longer))

    def check_goes_on(self, text):
        whole = book_goes_on(text)
        self.assertTrue(whole.startswith(text), text)
        self.assertIsNone(book_fault(whole))
        self.assertIsInstance(read_book(whole), Book)
        self.assertEqual(book_goes_on(text), whole)

    def test_texts(self):
        self.assertEqual(book_text(P), P_TEXT)
        self.assertEqual(book_text(Q), Q_TEXT)
        self.assertEqual(book_text(R), "take 1 leave none\ntake 2 to 3 leave one\n")
        self.assertEqual(book_text(N), "take 1 leave two when 0 of 2\ntake 1 to 2 leave none\ntake 1 to 2 leave one\n")
        self.assertEqual(book_text(EMPTY), "")
        self.assertEqual(book_text(Book([(1, MOST, "one", MOST - 1, MOST)])),
                         f"take 1 to {MOST} leave one when {MOST - 1} of {MOST}\n")

    def test_no_book(self):
        for thing in odd_things():
            if not isinstance(thing, Book):
                with self.assertRaises(BadBook) as caught:
                    book_text(thing)
                self.assertIs(caught.exception.thing, thing)

    def test_read_in_whatever_order(self):
        for text, book in [(P_TEXT, P), (Q_TEXT, Q)]:
            for lines in itertools.permutations(text.splitlines(True)):
                self.assertEqual(read_book("".join(lines)), book)
                self.assertIsNone(book_fault("".join(lines)))
        self.assertEqual(read_book(""), EMPTY)

    def test_written_and_read(self):
        for rules in many_rules(60, 1):
            book = Book(rules)
            self.assertEqual(read_book(book_text(book)), book)
            self.assertEqual(book_text(book), "".join(sorted(book_text(book).splitlines(True))))

    def test_no_string(self):
        for thing in odd_things():
            if not isinstance(thing, str):
                self.assertEqual(book_fault(thing), (0, 0))
                self.assertIsNone(book_goes_on(thing))
                with self.assertRaises(BadText) as caught:
                    read_book(thing)
                self.assertEqual((caught.exception.line, caught.exception.sign), (0, 0))

    def test_examples(self):
        self.check("take 2 to 2", (1, 12))
        self.check("take 1 leave none\n" * 2, (2, 18))

    def test_strings_that_no_line_begins_with(self):
        for text in ["x", "\n", " ", "T", "book p\n", "1", "\u00e9", "\r", "\t"]:
            self.check(text, (1, 1))
            self.check("take 1 leave none\n" + text, (2, 1))
        for text in ["taek", "take x", "take  ", "take -", "take \u0663"]:
            self.check(text, (1, 3 if text == "taek" else 6))

    def test_places(self):
        cases = [
            ("take 2 to 2\n", (1, 12)), ("take 2 to 2 ", (1, 12)), ("take 2 to 0", (1, 11)), ("take 2 to 1 ", (1, 12)),
            ("take 20 to 3 ", (1, 13)), ("take 2 to 3 leave", (1, 18)), ("take 01", (1, 7)), ("take 1 leave one\r\n", (1, 17)),
            ("take 0 leave o", (1, 14)), ("take 0 leave n", (1, 14)), ("take 0 o", (1, 8)), ("take 0 to 0", (1, 11)),
            ("take 0 to 5 leave two\n", None), ("take 0 leave two\n", None), ("take 00", (1, 7)),
            ("take 1 or more leave t", (1, 22)), ("take 1 or more leave one w", (1, 25)), ("take 1 or more leave one ", (1, 25)),
            ("take 1 to 1 or", (1, 12)), ("take 1 to 12 or", (1, 14)), ("take 1 leave one when 0 of 1\n", (1, 29)),
            ("take 1 leave one when 0 of 0", (1, 28)), ("take 1 leave one when 2 of 2\n", (1, 29)),
            ("take 1 leave one when 2 of 2", (1, 29)), ("take 1 leave one when 2 of 20\n", None),
            ("take 1 leave one when 00", (1, 24)), ("take 1 leave one when 0 of 2 ", (1, 29)),
            ("take 1 leave one", (1, 17)), ("take 1 leave one\n\n", (2, 1)), ("take 1 leave one\ntake", (2, 5)),
            ("take 1 leave ones", (1, 17)), ("take 1 leave one\n take 2", (2, 1)),
        ]
        for text, place in cases:
            self.check(text, place)

    def test_nineteen_figures(self):
        most = str(MOST)
        cases = [
            (f"take {most}", (1, 25)), (f"take {most}0", (1, 25)), (f"take {most} t", (1, 26)), (f"take {most} l", (1, 27)),
            (f"take {most} or more leave one\n", None), (f"take {MOST - 1} to {most} leave one\n", None),
            (f"take {MOST - 1} to {MOST - 1}", (1, 47)), (f"take {5 * 10 ** 18} to 5", (1, 30)),
            (f"take {5 * 10 ** 18} to 4", (1, 29)), (f"take {5 * 10 ** 18} to 50", (1, 31)),
            (f"take {6 * 10 ** 18} to 59", (1, 29)), ("take 1 leave one when " + most, (1, 41)),
            (f"take 1 leave one when {MOST - 1} of {most}\n", None), (f"take 1 leave one when {MOST - 1} of 8", (1, 46)),
            (f"take 1 to {10 ** 19}", (1, 30)), ("take 1 leave one when 0 of " + "1" * 20, (1, 47)),
            ("take " + "1" * 5000, (1, 25)), ("take 1 leave one when 0 of " + "1" * 5000, (1, 47)),
        ]
        for text, place in cases:
            self.check(text, place)

    def test_growing_ones_and_two(self):
        self.check("take 3 or more leave one\ntake 1 leave t", (2, 14))
        self.check("take 3 or more leave one\ntake 0", (2, 6))
        self.check("take 3 or more leave one\ntake 10 leave one\n", None)
        self.check("take 3 leave two\ntake 1 o", (2, 8))
        self.check("take 3 leave two\ntake 1 to 3 leave two\ntake 0 leave two\n", None)

    def test_growing_ones_run_out(self):
        text = "take 5 or more leave none\ntake 5 or more leave one\n"
        self.check(text + "take 5 o", (3, 8))
        self.check(text + "take 50 o", (3, 10))
        self.check(text + "take 5 leave one\n", None)
        one = "take 5 or more leave one\n"
        self.check(one + "take 5 or more leave o", (2, 22))
        self.check(one + "take 5 or more leave none\n", None)
        self.assertEqual(book_goes_on(one + "take 5 o"), one + "take 5 or more leave none\n")

    def test_moduli_run_out(self):
        start = "take 1 leave none when "
        last = f"{start}{MOST - 1} of {MOST}\n"
        self.check(last + last, (2, 42))
        self.check(last + f"{start}{MOST - 1}", (2, 42))
        self.check(last + f"{start}{str(MOST - 1)[:-1]}", (2, 42))
        self.check(last + f"{start}{MOST - 2} of {MOST}\n", None)
        base = 123456789012345678
        ten = "".join(f"{start}7 of {base}{figure}\n" for figure in range(10))
        self.check(ten + f"{start}7 of {base}1", (11, 47))
        self.check(ten + f"{start}7 of {base}\n", None)
        eleven = ten + f"{start}7 of {base}\n"
        self.check(eleven + f"{start}7 of {base}", (12, 46))
        self.check(eleven + f"{start}7 of {base // 10}", (12, 46))
        self.assertTrue(book_goes_on(ten + f"{start}7 of {base}").endswith(f"of {base}\n"))
        two = "".join(f"{start}{MOST - 2} of {modulus}\n" for modulus in (MOST - 1, MOST))
        self.check(two + f"{start}{MOST - 2}", (3, 42))
        self.check(two + f"{start}{MOST - 3} of {MOST - 1}\n", None)

    def test_the_plain_line_runs_out(self):
        text = "take 1 leave one\n"
        self.check(text + "take 1 leave one", (2, 17))
        self.check(text + "take 1 leave one w", (2, 19))
        self.check(text + "take 1 leave one when 0 of 2\n", None)

    def test_every_cut(self):
        for text in (P_TEXT, Q_TEXT):
            for size in range(len(text) + 1):
                cut = text[:size]
                whole = cut == "" or cut.endswith("\n")
                self.check(cut, None if whole else place_of(cut, size))

    def test_against_all_small_lines(self):
        with small_numbers():
            for text in (P_TEXT, Q_TEXT, "take 9 leave one when 8 of 9\ntake 8 to 9 leave none\n"):
                for other in signs_otherwise(text, "take 01289\nnomwf"):
                    place = first_fault(other, book_goes_on_plainly, book_reads_plainly)
                    self.check(other, place)

    def test_small_lines_that_run_out(self):
        rng = random.Random(3)
        starts = ["take 9 leave one", "take 8 or more", "take 9 leave none when 7", "take 8 to 9 leave two when 8", "take 9 o"]
        with small_numbers():
            for start in starts * 8:
                near = [line for line in ALL_LINES if line.startswith(start)]
                used = rng.sample(near, rng.randint(max(0, len(near) - 3), len(near)))
                ahead = "".join(used)
                for line in near[:6] + rng.sample(near, min(4, len(near))) + rng.sample(ALL_LINES, 4):
                    size = next((size for size in range(1, len(line) + 1) if not line_goes_on(line[:size], used)), None)
                    self.check(ahead + line, None if size is None else place_of(ahead + line, len(ahead) + size - 1))

    def test_small_lines_written(self):
        self.assertEqual(len(LINES), 7425 - 10 * 2 * 45 + 18)
        with small_numbers():
            for line, rule in list(LINES.items())[::7]:
                self.assertEqual(read_book(line).rules(), [rule])

    def test_long_refused_texts(self):
        self.check("take 1 leave none\n" * 2000, (2, 18))
        self.check("take 1 leave one" + " " * 30000, (1, 18))
        rules = [(low, None, "one", 0, 1) for low in range(1, 700)]
        self.assertEqual(read_book(book_text(Book(rules))), Book(rules))

    def test_by_name(self):
        self.assertEqual(read_book(text=book_text(book=P)), P)
        self.assertEqual(book_fault(text="x"), (1, 1))
        self.assertEqual(book_goes_on(text=P_TEXT), P_TEXT)

    def test_rules_as_lists(self):
        self.assertEqual(book_text(Book([list(rule) for rule in Q_RULES])), Q_TEXT)
        self.assertEqual(book_text(Book(tuple(P_RULES))), P_TEXT)


if __name__ == "__main__":
    unittest.main()
