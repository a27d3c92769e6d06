"""Points 11 and 12: positions and claims as texts, and their first wrong signs."""

import itertools
import unittest

from takeandsplit.errors import BadForm
from takeandsplit.positiontexts import (claim_fault, claim_text, position_fault, position_text, read_claim,
                                        read_position)
from tests.plaintexts import claim_goes_on, claim_reads, position_goes_on, position_reads
from tests.samples import MOST_HEAP, RESERVED, odd_things
from tests.textcases import TextCase, ends_a_line

POSITION = [("p", 10), ("p", 9), ("p1", 3), ("a", MOST_HEAP), ("p", 9)]
TEXT = f"a {MOST_HEAP}\np 9\np 9\np 10\np1 3\n"
MOVES = [
    (("p", 10, []), "move p 10 to none\n"), (("p", 10, [7]), "move p 10 to 7\n"),
    (("p", 10, [3, 7]), "move p 10 to 3, 7\n"), (("win1", MOST_HEAP, [4, 4]), f"move win1 {MOST_HEAP} to 4, 4\n"),
    (("q", 1, [5, MOST_HEAP]), f"move q 1 to 5, {MOST_HEAP}\n"),
]
BAD_PAIRS = [("p",), ("p", 0), ("p", True), ("p", MOST_HEAP + 1), ("take", 1), ("P", 1), (1, "p"), ("p", 1, 1), ("p", "1"),
             None, "p1", {}, ("", 1), ("p", [1]), (["p"], 1), ("abcdefghi", 1), ("p", -1), 7, ()]
BAD_MOVES = [None, (), ("p", 10), ("p", 10, [7], 1), ("p", 0, []), ("P", 10, []), ("p", 10, [7, 3]), ("p", 10, [1, 2, 3]),
             ("p", 10, [0]), ("p", 10, [True]), ("p", 10, None), ("p", 10, 7), ("p", 10, "none"), ("p", True, [1]),
             ("move", 10, [1]), ("p", 10, [MOST_HEAP + 1]), ("p", 10, [[1]]), "p 10 to none", {}, ("p", 10, [None])]


class PositionTextsTest(TextCase):
    read, write, fault = staticmethod(read_position), staticmethod(position_text), staticmethod(position_fault)

    def test_texts(self):
        self.assertEqual(position_text(POSITION), TEXT)
        self.assertEqual(position_text(tuple(list(pair) for pair in POSITION)), TEXT)
        self.assertEqual(position_text(position=[]), "")
        self.assertEqual(read_position(text=TEXT), sorted(POSITION))
        self.assertEqual(read_position(""), [])
        self.assertEqual(position_text([("put", 3), ("p", 20), ("p", 3)]), "p 3\np 20\nput 3\n")

    def test_read_in_whatever_order(self):
        for lines in itertools.permutations(TEXT.splitlines(True)):
            told = read_position("".join(lines))
            self.assertEqual(told, sorted(POSITION))
            self.assertIs(type(told), list)
            self.assertTrue(all(type(pair) is tuple for pair in told))

    def test_bad_forms(self):
        for bad in BAD_PAIRS:
            for at in range(3):
                position = [("p", 3), ("q", 4)]
                position.insert(at, bad)
                self.check_refused(BadForm, [position, tuple(position)])
        good = ([], (), [("p", 1)], [["p", 4], ("r", 5)])
        self.check_refused(BadForm, [thing for thing in odd_things() if thing not in good])

    def test_no_string(self):
        self.check_no_strings()

    def test_every_cut(self):
        self.check_cuts(TEXT, ends_a_line)

    def test_places(self):
        self.check_all([
            ("p 0", (1, 3)), ("p 01", (1, 3)), ("p 1 ", (1, 4)), ("p  1", (1, 3)), ("p", (1, 2)), ("p ", (1, 3)), ("p\n", (1, 2)),
            ("P 1", (1, 1)), ("1 p", (1, 1)), (" p 1", (1, 1)), ("\n", (1, 1)), ("p 1\n\n", (2, 1)), ("abcdefghi", (1, 9)),
            ("abcdefgh 1\n", None), ("p 1\np 1\n", None), (f"p {MOST_HEAP}\n", None), (f"p {MOST_HEAP}0", (1, 22)),
            (f"p {MOST_HEAP + 1}", (1, 21)), (f"p {2 * MOST_HEAP}", (1, 21)), ("p " + "9" * 18 + "\n", None),
            ("p -1", (1, 3)), ("p 1x", (1, 4)), ("p_ 1", (1, 2)), ("p \u0663", (1, 3)), ("\u00e9 1", (1, 1)), ("p 1\r\n", (1, 4)),
        ])
        for word in RESERVED:
            self.check(f"{word} 1\n", (1, len(word) + 1))
            self.check(word, (1, len(word) + 1))
            self.check(f"{word}0 1\n", None)

    def test_every_sign_otherwise(self):
        texts = ["p 3\nto1 10\n", f"a {MOST_HEAP}\n"]
        self.check_signs_otherwise(texts, " \nabtop0129", position_goes_on, position_reads)

    def test_passed_positions_are_not_changed(self):
        position = [["p", 10], ["p", 9]]
        position_text(position)
        claim_text((position, "win", None))
        self.assertEqual(position, [["p", 10], ["p", 9]])


class ClaimTextsTest(TextCase):
    read, write, fault = staticmethod(read_claim), staticmethod(claim_text), staticmethod(claim_fault)

    def test_texts(self):
        for word in ("win", "lose"):
            self.assertEqual(claim_text((POSITION, word, None)), TEXT + word + "\n")
            self.assertEqual(claim_text([[], word, None]), word + "\n")
            self.assertEqual(read_claim(TEXT + word + "\n"), (sorted(POSITION), word, None))
        for move, line in MOVES:
            loose = [tuple(list(pair) for pair in POSITION), "move", [move[0], move[1], tuple(move[2])]]
            self.assertEqual(claim_text((POSITION, "move", move)), TEXT + line)
            self.assertEqual(claim_text(claim=loose), TEXT + line)
            self.assertEqual(read_claim(text=TEXT + line), (sorted(POSITION), "move", move))
            self.assertEqual(read_claim(line), ([], "move", move))

    def test_kinds_of_what_is_told(self):
        told = read_claim(TEXT + MOVES[2][1])
        self.assertEqual([type(part) for part in told], [list, str, tuple])
        self.assertIs(type(told), tuple)
        self.assertTrue(all(type(pair) is tuple for pair in told[0]))
        self.assertIs(type(told[2][2]), list)
        told[0].clear()
        told[2][2].append(5)
        self.assertEqual(read_claim(TEXT + MOVES[2][1]), (sorted(POSITION), "move", MOVES[2][0]))

    def test_read_in_whatever_order(self):
        for lines in itertools.permutations(TEXT.splitlines(True)):
            self.assertEqual(read_claim("".join(lines) + "lose\n"), (sorted(POSITION), "lose", None))

    def test_bad_forms(self):
        good = [("p", 3)]
        bad = [(good, "win"), (good, "win", None, None), (good, "winner", None), (good, None, None), (good, "win", []),
               (good, "lose", ("p", 3, [])), (good, ["win"], None), (good, 1, None), (None, "win", None), ("", "win", None),
               (good, "win", False), (good, "move"), {}, "win", None, (good, {}, ("p", 3, []))]
        bad += [(good, "move", move) for move in BAD_MOVES]
        bad += [([("p", 3), pair], "win", None) for pair in BAD_PAIRS]
        claims = (([], "win", None), ([], "move", ("p", 3, [2])))
        self.check_refused(BadForm, bad + [thing for thing in odd_things() if thing not in claims])

    def test_no_string(self):
        self.check_no_strings()

    def test_every_cut(self):
        for text in ["win\n", "p 3\nlose\n"] + [TEXT + line for _, line in MOVES]:
            self.check_cuts(text, text.__eq__)

    def test_places(self):
        self.check_all([
            ("", (1, 1)), ("p 1\n", (2, 1)), ("win", (1, 4)), ("win ", (1, 4)), ("wins", (1, 5)), ("wins 3\nwin\n", None),
            ("win\n\n", (2, 1)), ("win\np 3\n", (2, 1)), ("win\nw", (2, 1)), ("lose 3", (1, 5)), ("move\n", (1, 5)),
            ("move p\n", (1, 7)), ("move p 3\n", (1, 9)), ("move p 3 \n", (1, 10)), ("move p 3 to \n", (1, 13)),
            ("move p 3 to no\n", (1, 15)), ("move p 3 to none, 1\n", (1, 17)), ("move p 3 to 0", (1, 13)),
            ("move p 3 to 5, 4\n", (1, 17)), ("move p 3 to 5, 4", (1, 17)), ("move p 3 to 5, 40\n", None),
            ("move p 3 to 5,4\n", (1, 15)), ("move p 3 to 5, 5\n", None), ("move p 3 to 1, 2, 3\n", (1, 17)),
            (f"move p 3 to {MOST_HEAP}, 1", (1, 35)), (f"move p 3 to {MOST_HEAP}, 2", (1, 34)),
            (f"move p 3 to {6 * MOST_HEAP // 10}, 5", (1, 33)), (f"move p 3 to {5 * MOST_HEAP // 10}, 5", (1, 34)),
            (f"move p 3 to {5 * MOST_HEAP // 10}, 4", (1, 33)), (f"move p 3 to {5 * MOST_HEAP // 10 + 1}, 5\n", (1, 34)),
            ("move take 3 to none\n", (1, 10)), ("move move", (1, 10)), ("moves 4\nwin\n", None), ("move1", (1, 6)),
            ("move p 0", (1, 8)), (f"move p {MOST_HEAP + 1}", (1, 26)), ("x", (1, 2)), ("X", (1, 1)), ("\n", (1, 1)),
            ("p 3\nmove p 3 to none\np 3", (3, 1)), ("WIN", (1, 1)), ("p 3\nwin\r\n", (2, 4)), ("take 3", (1, 5)),
        ])

    def test_every_sign_otherwise(self):
        texts = ["p 3\nwin\n", "lose\n", "p 30\nmove p 30 to none\n", "move n 7 to 5\n", "m 2\nmove m 2 to 19, 20\n"]
        self.check_signs_otherwise(texts, " \nmnowil,0129", claim_goes_on, claim_reads)


if __name__ == "__main__":
    unittest.main()
