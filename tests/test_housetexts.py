"""Points 10, 11 and 14: houses as texts, and their first wrong signs."""

import itertools
import unittest

from takeandsplit.books import Book
from takeandsplit.errors import BadHouse
from takeandsplit.houses import House
from takeandsplit.housetexts import house_fault, house_text, read_house
from tests.plaintexts import house_goes_on, house_reads
from tests.samples import EMPTY, HOUSE, N, P, Q, R, RESERVED, many_rules, odd_things
from tests.smalltexts import small_numbers
from tests.textcases import TextCase, ends_a_line

H_TEXT = """book n
take 1 leave two when 0 of 2
take 1 to 2 leave none
take 1 to 2 leave one
book p
take 0 leave two when 1 of 3
take 1 to 2 leave one
take 2 leave none
book q
take 1 leave none
take 2 or more leave one
book r
take 1 leave none
take 2 to 3 leave one
"""
NAME_SIGNS = "abcdefghijklmnopqrstuvwxyz0123456789"


class HouseTextsTest(TextCase):
    read, write, fault = staticmethod(read_house), staticmethod(house_text), staticmethod(house_fault)

    def test_texts(self):
        self.assertEqual(house_text(HOUSE), H_TEXT)
        self.assertEqual(read_house(H_TEXT), HOUSE)
        self.assertEqual(house_text(House([])), "")
        self.assertEqual(read_house(""), House([]))
        self.assertEqual(house_text(House([("b", EMPTY), ("a", EMPTY)])), "book a\nbook b\n")
        self.assertEqual(house_text(house=HOUSE), house_text(read_house(text=H_TEXT)))

    def test_no_house(self):
        self.check_refused(BadHouse, [thing for thing in odd_things() if not isinstance(thing, House)])

    def test_read_in_whatever_order(self):
        parts = ["book " + part for part in H_TEXT.split("book ")[1:]]
        for order in itertools.permutations(parts):
            self.assertEqual(read_house("".join(order)), HOUSE)
        for lines in itertools.permutations(parts[1].splitlines(True)[1:]):
            text = parts[0] + "book p\n" + "".join(lines) + parts[2]
            self.assertEqual(read_house(text), House([("n", N), ("p", P), ("q", Q)]))

    def test_written_and_read(self):
        rules = many_rules(30, 2)
        for at in range(0, len(rules), 3):
            house = House([(f"x{size}", Book(some)) for size, some in enumerate(rules[at:at + 3])])
            self.assertEqual(read_house(house_text(house)), house)

    def test_no_string(self):
        self.check_no_strings()

    def test_every_cut(self):
        self.check_cuts(H_TEXT, ends_a_line)

    def test_places(self):
        self.check_all([
            ("take 1 leave one\n", (1, 1)), ("x", (1, 1)), ("\n", (1, 1)), ("b", (1, 2)), ("books", (1, 5)),
            ("book ", (1, 6)), ("book 1", (1, 6)), ("book P", (1, 6)), ("book p ", (1, 7)), ("book p", (1, 7)),
            ("book abcdefgh\n", None), ("book abcdefghi", (1, 14)), ("book p\n\n", (2, 1)), ("book p\nbook p\n", (2, 7)),
            ("book p\nbook p1\n", None), ("book p\nbook q\nbook p\n", (3, 7)), ("book p\ntake 1 leave one\nt", (3, 2)),
            ("book p\ntake 1 leave one\ntake 1 leave one\n", (3, 17)), ("book p\nput p 3\n", (2, 1)), ("book p\n ", (2, 1)),
            ("book p\ntake 1 leave one\nbook q\ntake 1 leave one\n", None), ("book p\nx", (2, 1)), ("book\n", (1, 5)),
            ("book p\ntake 3 or more leave one\nbook q\ntake 0 leave two\n", None), ("book \u00e9", (1, 6)),
            ("book p\ntake 3 or more leave one\ntake 0", (3, 6)),
        ])

    def test_words_are_no_names(self):
        for word in RESERVED:
            self.check_all([
                (f"book {word}\n", (1, 6 + len(word))), (f"book {word}", (1, 6 + len(word))), (f"book {word}1\n", None),
                (f"book p\nbook {word}\n", (2, 6 + len(word))),
            ])

    def test_names_run_out(self):
        self.check("book abcdefgh\nbook abcdefgh\n", (2, 13))
        self.check("book abcdefgh\nbook abcdefg\n", None)
        lines = [f"book abcdefg{sign}\n" for sign in NAME_SIGNS]
        text = "".join(lines)
        self.check(text + "book abcdefg\n", None)
        self.check(text + "book abcdefg4\n", (37, 13))
        self.check(text + "book abcdefg\nbook abcdefg", (38, 12))
        self.check(text + "book abcdefg\nbook abcdef", (38, 12))
        self.check(text + "book abcdefg\nbook abcdef\nbook abcdef", (39, 12))
        self.check("book abcdefg\n" + text, None)
        for left in range(36):
            some = "".join(lines[:left] + lines[left + 1:]) + "book abcdefg\n"
            self.check(some + "book abcdefg", (37, 13))
            self.check(some + lines[left], None)

    def test_every_sign_otherwise(self):
        texts = ["book p\ntake 1 leave one\nbook q\ntake 2 or more leave none\n",
                 "book abcdefgh\nbook to1\ntake 0 to 9 leave two when 8 of 9\n"]
        with small_numbers():
            self.check_signs_otherwise(texts, " \nabkoqt129", house_goes_on, house_reads)

    def test_forty_books(self):
        house = House([(f"a{number}", R) for number in range(40)])
        self.assertEqual(read_house(house_text(house)), house)


if __name__ == "__main__":
    unittest.main()
