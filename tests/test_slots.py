"""Numbers and names of which only a beginning is known, against plain listings."""

import itertools
import unittest
from unittest.mock import patch

from takeandsplit import slots
from takeandsplit.slots import names_from, numbers_from, past_word
from tests.samples import RESERVED


class SlotsTest(unittest.TestCase):
    def test_past_word(self):
        self.assertEqual(past_word("take ", "take 1"), "1")
        self.assertEqual(past_word("take ", "ta"), "")
        self.assertEqual(past_word("take ", ""), "")
        self.assertIsNone(past_word("take ", "tb"))
        self.assertIsNone(past_word("take ", "taker"))

    def test_numbers_of_a_beginning(self):
        for low, high in [(0, 0), (0, 7), (1, 1), (3, 250), (99, 101), (1, 1000), (120, 130), (5, 4)]:
            texts = {number: str(number) for number in range(low, high + 1)}
            for start in [""] + [str(number) for number in range(1200)] + ["00", "01", "x", " 1"]:
                free = [number for number in texts if texts[number].startswith(start)]
                self.assertEqual(sorted(numbers_from(low, high, start)), [(number, "") for number in free])
                just = [number for number in texts if texts[number] == start]
                self.assertEqual(list(numbers_from(low, high, start + " x")), [(number, " x") for number in just])

    def test_great_numbers(self):
        most = 10 ** 19 - 1
        self.assertEqual(list(numbers_from(most - 1, most, "")), [(most - 1, ""), (most, "")])
        self.assertEqual(list(numbers_from(0, most, "9" * 19)), [(most, "")])
        self.assertEqual(list(numbers_from(0, most, "1" * 20)), [])
        self.assertEqual(list(numbers_from(0, most, "1" * 5000)), [])
        self.assertEqual(list(numbers_from(1, 10 ** 18, "1" + "0" * 18)), [(10 ** 18, "")])
        self.assertEqual(list(numbers_from(1, 10 ** 18, "1" + "0" * 17 + "1")), [])
        self.assertEqual(len(list(numbers_from(0, most, "1" * 18))), 11)

    def test_names_of_a_beginning(self):
        with patch.object(slots, "MOST_NAME", 3), patch.object(slots, "LETTERS", "otrn"), \
                patch.object(slots, "FIGURES", "1"):
            signs = "otrn1"
            names = [name for size in (1, 2, 3) for name in map("".join, itertools.product(signs, repeat=size))
                     if name[0] != "1" and name not in RESERVED]
            self.assertNotIn("to", names)
            for size in range(5):
                for start in map("".join, itertools.product(signs + " ", repeat=size)):
                    if " " in start:
                        at = start.index(" ")
                        want = [(start[:at], start[at:])] if start[:at] in names else []
                    else:
                        want = sorted((name, "") for name in names if name.startswith(start))
                    self.assertEqual(sorted(names_from(start)), want, start)


if __name__ == "__main__":
    unittest.main()
