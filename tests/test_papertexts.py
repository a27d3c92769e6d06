"""Points 11 and 13: papers as texts, and their first wrong signs."""

import itertools
import unittest

from takeandsplit.errors import BadForm, BadPaper
from takeandsplit.papertexts import paper_fault, paper_text, papers_fault, papers_text, read_paper, read_papers
from tests.plaintexts import paper_goes_on, paper_reads, papers_goes_on, papers_reads
from tests.samples import Q_PAPER, R_PAPER, odd_things
from tests.textcases import TextCase, ends_a_line

R_TEXT = "begin 1\nperiod 5\ngain 0\nvalue 0\nvalue 1\nvalue 0\nvalue 0\nvalue 2\nvalue 1\n"
SMALL = (1, 1, 3, [0, 12])
SMALL_TEXT = "begin 1\nperiod 1\ngain 3\nvalue 0\nvalue 12\n"
PAPERS = [("q", Q_PAPER), ("a1", SMALL), ("r", R_PAPER)]
PAPERS_TEXT = "book a1\n" + SMALL_TEXT + "book q\n" + paper_text(Q_PAPER) + "book r\n" + R_TEXT
BAD_PAPERS = [
    (0, 1, 0, [0]), (1, 0, 0, [0]), (1, 1, -1, [0, 0]), (1, 1, 0, [0]), (1, 1, 0, [0, 0, 0]), (1, 1, 0, [1, 0]),
    (1, 1, 0, [0, -1]), (1, 1, 0, [0, True]), (1, 1, 0, [False, 0]), (True, 1, 0, [0, 0]), (1, True, 0, [0, 0]),
    (1, 1, False, [0, 0]), (1, 1, 0, None), (1, 1, 0, {0: 0, 1: 0}), (1, 1, 0, "00"), (1, 1, [0, 0]), (1, 1, 0, [0, 0], 0),
    (None, 1, 0, [0, 0]), (1, "1", 0, [0, 0]), (1, 1, None, [0, 0]), (1, 1, 0, [0, None]), (1, 1, 0, [0, [0]]), "", None, {},
]


class PaperTextsTest(TextCase):
    read, write, fault = staticmethod(read_paper), staticmethod(paper_text), staticmethod(paper_fault)

    def test_texts(self):
        self.assertEqual(paper_text(R_PAPER), R_TEXT)
        self.assertEqual(paper_text(paper=[1, 5, 0, tuple(R_PAPER[3])]), R_TEXT)
        self.assertEqual(read_paper(text=R_TEXT), R_PAPER)
        self.assertEqual(paper_text(SMALL), SMALL_TEXT)
        told = read_paper(SMALL_TEXT)
        self.assertEqual(told, SMALL)
        self.assertIs(type(told), tuple)
        self.assertIs(type(told[3]), list)
        told[3].append(1)
        self.assertEqual(read_paper(SMALL_TEXT), SMALL)

    def test_no_paper(self):
        good = (R_PAPER, Q_PAPER, list(R_PAPER))
        self.check_refused(BadPaper, BAD_PAPERS + [thing for thing in odd_things() if thing not in good])

    def test_no_string(self):
        self.check_no_strings()

    def test_places(self):
        self.check_all([
            ("", (1, 1)), ("\n", (1, 1)), ("begin 0", (1, 7)), ("begin 01", (1, 7)), ("begin 1", (1, 8)), ("begin 1\n", (2, 1)),
            ("begin 1\nperiod 0", (2, 8)), ("begin 1\ngain", (2, 1)), ("begin 1\nperiod 2\ngain 00", (3, 7)),
            ("begin 1\nperiod 1\ngain 0\nvalue 1", (4, 7)), ("begin 1\nperiod 1\ngain 0\nvalue 0\n", (5, 1)),
            ("begin 1\nperiod 1\ngain 0\nvalue 0\nvalue 7\n", None), (SMALL_TEXT + "v", (6, 1)), (SMALL_TEXT + "\n", (6, 1)),
            ("begin 1\nperiod 1\ngain 0\nvalue 0\nvalue 07", (5, 8)), ("begin " + "9" * 19 + "\n", (2, 1)), ("period", (1, 1)),
            ("begin " + "9" * 20, (1, 26)), ("value 0", (1, 1)), ("begin -1", (1, 7)), ("begin 1 ", (1, 8)), ("Begin", (1, 1)),
            ("begin 1\nperiod 1\ngain 0\nvalue 00", (4, 8)), ("begin 1\nperiod 1\ngain 0\nvalue 0\nvalue " + "1" * 20, (5, 26)),
            (SMALL_TEXT[:-1], (5, 9)), (R_TEXT[:-8], (9, 1)),
        ])

    def test_every_cut(self):
        for text in (R_TEXT, SMALL_TEXT):
            self.check_cuts(text, text.__eq__)

    def test_every_sign_otherwise(self):
        texts = [SMALL_TEXT, "begin 2\nperiod 1\ngain 0\nvalue 0\nvalue 0\nvalue 9\n"]
        self.check_signs_otherwise(texts, " \nbpgv019x", paper_goes_on, paper_reads)


class PapersTextsTest(TextCase):
    read, write, fault = staticmethod(read_papers), staticmethod(papers_text), staticmethod(papers_fault)

    def test_texts(self):
        self.assertEqual(papers_text(PAPERS), PAPERS_TEXT)
        loose = tuple([name, [begin, period, gain, tuple(told)]] for name, (begin, period, gain, told) in PAPERS)
        self.assertEqual(papers_text(papers=loose), PAPERS_TEXT)
        self.assertEqual(papers_text([]), "")
        self.assertEqual(read_papers(""), [])
        told = read_papers(text=PAPERS_TEXT)
        self.assertEqual(told, sorted(PAPERS))
        self.assertIs(type(told), list)
        for pair in told:
            self.assertEqual([type(pair), type(pair[1]), type(pair[1][3])], [tuple, tuple, list])

    def test_read_in_whatever_order(self):
        parts = ["book " + part for part in PAPERS_TEXT.split("book ")[1:]]
        for order in itertools.permutations(parts):
            self.assertEqual(read_papers("".join(order)), sorted(PAPERS))

    def test_bad_forms(self):
        bad = [[("p", R_PAPER), ("p", R_PAPER)], [("p", R_PAPER), ("q", R_PAPER), ["p", SMALL]], [("take", R_PAPER)],
               [("p",)], [("p", R_PAPER, 1)], [("p", R_PAPER), None], {"p": R_PAPER}, [(1, R_PAPER)], [("", R_PAPER)],
               [(["p"], R_PAPER)], ("p", R_PAPER), None, "", 7]
        bad += [[("p", R_PAPER), ("q", paper)] for paper in BAD_PAPERS]
        self.check_refused(BadForm, bad + [thing for thing in odd_things() if thing not in ([], ())])

    def test_no_string(self):
        self.check_no_strings()

    def test_places(self):
        p_text = "book p\n" + SMALL_TEXT
        self.check_all([
            ("begin 1", (1, 2)), ("x", (1, 1)), ("book p\n", (2, 1)), ("book p\nbook q", (2, 2)), ("book p\ntake", (2, 1)),
            (p_text + "book p\n", (7, 7)), (p_text + "book q\n" + SMALL_TEXT, None), (p_text + "v", (7, 1)),
            (p_text + "book q\n", (8, 1)), (p_text[:-9] + "book q", (6, 1)), ("book take\n", (1, 10)), ("book 1", (1, 6)),
            (p_text + "book p1\n" + SMALL_TEXT, None), (p_text, None), (p_text + "book p", (7, 7)),
        ])
        full = "book abcdefgh\n" + SMALL_TEXT
        self.check(full + "book abcdefgh\n", (7, 13))

    def test_every_cut(self):
        self.check_cuts(PAPERS_TEXT, lambda cut: ends_a_line(cut) and PAPERS_TEXT[len(cut):len(cut) + 5] in ("book ", ""))

    def test_every_sign_otherwise(self):
        text = "book p\nbegin 1\nperiod 1\ngain 0\nvalue 0\nvalue 3\nbook of1\n" + SMALL_TEXT
        self.check_signs_otherwise([text], " \nbpg1x", papers_goes_on, papers_reads)


if __name__ == "__main__":
    unittest.main()
