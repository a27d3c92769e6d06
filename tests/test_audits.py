"""Points 71, 72 and 76: anybody's papers and claims audited by their texts."""

import itertools
import random
import time
import unittest

from takeandsplit.audits import audit_claim, audit_last, audit_paper
from takeandsplit.books import Book
from takeandsplit.booktexts import book_fault, book_text
from takeandsplit.growing import growing_fault
from takeandsplit.houses import House
from takeandsplit.housetexts import house_fault, house_text
from takeandsplit.looks import look_fault
from takeandsplit.papers import led_paper
from takeandsplit.papertexts import paper_fault, paper_text, papers_fault, papers_text
from takeandsplit.positiontexts import claim_fault, claim_text
from takeandsplit.refusals import claim_refusal, is_claim_refusal, is_last_refusal, last_refusal
from takeandsplit.takings import grows
from tests.engines import PAPERS, SPLITTING, example_engine, many_engines, names_of, right_paper
from tests.plainplay import plain_moves, random_position
from tests.samples import MOST_HEAP, P, Q, Q_PAPER, R, R_PAPER, odd_things, signs_otherwise
from tests.tames import mixed_engine, tame_engines

P_PAPER = PAPERS["p"]
WIN = "p 4\nr 5\nwin\n"
LOSE = "p 4\nr 5\nlose\n"
PQR_TEXT = house_text(House([("p", P), ("q", Q), ("r", R)]))
PAPERS_TEXT = papers_text(list(PAPERS.items()))
NO_STRINGS = [thing for thing in odd_things() if not isinstance(thing, str)]


def texts_of(engine):
    return house_text(engine.house()), papers_text(list(engine.papers().items()))


def example_fault(book, paper):
    return growing_fault(book, paper) if grows(book) else look_fault(book, paper)


class PaperTest(unittest.TestCase):
    def test_examples(self):
        self.assertIsNone(audit_paper(book_text=book_text(P), paper_text=paper_text(P_PAPER)))
        begin, period, gain, told = P_PAPER
        wrong = paper_text((begin, period, gain, told[:-1] + [2]))
        self.assertEqual(audit_paper(book_text(P), wrong), ("wrong", ("has", 13, [4, 9])))

    def test_texts_that_are_not_read(self):
        good, paper = book_text(R), paper_text(R_PAPER)
        for text in signs_otherwise(good, "0 \nx"):
            place = book_fault(text)
            if place is not None:
                self.assertEqual(audit_paper(text, paper), ("book",) + place)
                self.assertEqual(audit_paper(text, "no paper"), ("book",) + place)
        for text in signs_otherwise(paper, "5 \nx"):
            place = paper_fault(text)
            if place is not None:
                self.assertEqual(audit_paper(good, text), ("paper",) + place)
                self.assertEqual(audit_paper("take 1\n", text), ("book", 1, 7))
        for size in range(len(paper)):
            self.assertEqual(audit_paper(good, paper[:size]), ("paper",) + paper_fault(paper[:size]))

    def test_no_strings(self):
        for thing in NO_STRINGS:
            self.assertEqual(audit_paper(thing, thing), ("book", 0, 0))
            self.assertEqual(audit_paper(thing, paper_text(R_PAPER)), ("book", 0, 0))
            self.assertEqual(audit_paper(book_text(R), thing), ("paper", 0, 0))

    def test_wrong_papers(self):
        begin, period, gain, told = R_PAPER
        papers = [(begin, period, 1, told), (begin, period, gain, told[:1] + [0] + told[2:]), (2, 5, 0, told + [2]),
                  (begin, 4, gain, told[:5]), (begin, 10, gain, told + [0] * 5), (1, 1, 0, [0, 1])]
        for paper, book in itertools.product(papers + [R_PAPER, P_PAPER, Q_PAPER], (P, Q, R)):
            fault = example_fault(book, paper)
            told_it = audit_paper(book_text(book), paper_text(paper))
            self.assertEqual(told_it, None if fault is None else ("wrong", fault))
        for number in range(1, 6):
            paper = (begin, period, gain, told[:number] + [told[number] + 1] + told[number + 1:])
            self.assertEqual(audit_paper(book_text(R), paper_text(paper)), ("wrong", look_fault(R, paper)))
        self.assertEqual(audit_paper(book_text(P), paper_text((2, 4, 0, [0, 0, 1, 2, 3, 0]))), ("wrong", ("turn",)))
        self.assertEqual(audit_paper(book_text(R), paper_text((1, 5, 1, told))), ("wrong", ("gain",)))
        growing = (4, 2, 2, Q_PAPER[3])
        self.assertEqual(audit_paper(book_text(Q), paper_text(growing)), ("wrong", ("state",)))

    def test_no_rules_and_lines_otherwise(self):
        self.assertIsNone(audit_paper("", "begin 1\nperiod 1\ngain 0\nvalue 0\nvalue 0\n"))
        lines = book_text(P).splitlines(keepends=True)
        for row in itertools.permutations(lines):
            self.assertIsNone(audit_paper("".join(row), paper_text(led_paper(P_PAPER, 20, 6))))

    def test_great_numbers_where_a_value_is_wrong(self):
        """A look may go far, and a fault be near."""
        text = "take 1 to 9999999999999999999 leave one\n"
        paper = "begin 1\nperiod 1\ngain 0\nvalue 0\nvalue 0\n"
        self.assertEqual(audit_paper(text, paper), ("wrong", ("has", 2, [1])))
        text = "take 1 leave one when 1 of 9999999999999999999\n"
        self.assertEqual(audit_paper(text, paper), ("wrong", ("turn",)))


class ClaimTest(unittest.TestCase):
    def test_examples(self):
        self.assertIsNone(audit_claim(house_text=PQR_TEXT, papers_text=PAPERS_TEXT, claim_text=WIN))
        told = audit_claim(PQR_TEXT, PAPERS_TEXT, LOSE)
        self.assertIs(is_claim_refusal(example_engine(), ([("p", 4), ("r", 5)], "lose", None), told), True)
        self.assertEqual(audit_claim(PQR_TEXT, PAPERS_TEXT, "p 7\np 3\nwin\n"), ("lost", [2, 2]))
        self.assertEqual(audit_claim(PQR_TEXT, PAPERS_TEXT, "p 4\nmove p 4 to 1, 2\n"), ("no move",))
        self.assertIsNone(audit_last(house_text=PQR_TEXT, papers_text=PAPERS_TEXT, claim_text="r 4\nr 1\nmove r 4 to 2\n"))
        self.assertEqual(audit_last(PQR_TEXT, PAPERS_TEXT, "r 1\nr 4\nlose\n"), ("won", ("r", 4, [2])))
        self.assertEqual(audit_last(PQR_TEXT, PAPERS_TEXT, "r 1\nwin\n"), ("lost", [1]))
        self.assertEqual(audit_last(PQR_TEXT, PAPERS_TEXT, "lose\n"), ("won", None))

    def test_claims_right_and_wrong(self):
        rng = random.Random(491)
        games = [(audit_claim, claim_refusal, is_claim_refusal, [example_engine()] + list(many_engines(10, 492))),
                 (audit_last, last_refusal, is_last_refusal, list(tame_engines(12, 493)))]
        for audit, refusal, is_refusal, engines in games:
            kinds = {}
            for engine in engines:
                texts = texts_of(engine)
                for most in (0, 3, 12, 30):
                    position = random_position(rng, names_of(engine), most)
                    moves = plain_moves(engine.house(), position)
                    claims = [(position, "win", None), (position, "lose", None), (position, "move", (names_of(engine)[0], 9, [9]))]
                    claims += [(position, "move", move) for move in rng.sample(moves, min(3, len(moves)))]
                    for claim in claims:
                        told = audit(*texts, claim_text(claim))
                        self.assertEqual(told is None, refusal(engine, claim) is None)
                        if told is not None:
                            self.assertIs(is_refusal(engine, claim, told), True)
                        kinds[claim[1], told and told[0]] = True
            self.assertEqual(set(kinds), {("win", None), ("win", "lost"), ("lose", None), ("lose", "won"),
                                          ("move", None), ("move", "no move"), ("move", "answer")})

    def test_great_heaps(self):
        text = f"p {MOST_HEAP}\nq {MOST_HEAP - 1}\n"
        self.assertIsNone(audit_claim(PQR_TEXT, PAPERS_TEXT, text + "win\n"))
        told = audit_claim(PQR_TEXT, PAPERS_TEXT, text + "lose\n")
        self.assertEqual(told[0], "won")
        move = claim_text(([("p", MOST_HEAP), ("q", MOST_HEAP - 1)], "move", told[1]))
        self.assertIsNone(audit_claim(PQR_TEXT, PAPERS_TEXT, move))
        self.assertEqual(audit_claim(PQR_TEXT, PAPERS_TEXT, f"p {MOST_HEAP}\np {MOST_HEAP}\nwin\n"), ("lost", [4, 4]))

    def test_texts_that_are_not_read(self):
        good = (PQR_TEXT, PAPERS_TEXT, WIN)
        kinds = [("house", house_fault), ("papers", papers_fault), ("claim", claim_fault)]
        rng = random.Random(494)
        for audit, (at, (word, fault)) in itertools.product((audit_claim, audit_last), enumerate(kinds)):
            every = [text for text in signs_otherwise(good[at], "0 \nx") if fault(text) is not None]
            for text in rng.sample(every, 60) + [good[at][:size] for size in range(0, len(good[at]), 7)]:
                place = fault(text)
                if place is None:
                    continue
                row = list(good)
                row[at] = text
                self.assertEqual(audit(*row), (word,) + place)
                # Errors behind it do not come ahead of it.
                self.assertEqual(audit(*row[:at + 1], *[None] * (2 - at)), (word,) + place)
        for audit, thing in itertools.product((audit_claim, audit_last), NO_STRINGS):
            self.assertEqual(audit(thing, thing, thing), ("house", 0, 0))
            self.assertEqual(audit(PQR_TEXT, thing, thing), ("papers", 0, 0))
            self.assertEqual(audit(PQR_TEXT, PAPERS_TEXT, thing), ("claim", 0, 0))

    def test_names_that_lack(self):
        papers = {**PAPERS, "a": R_PAPER, "z": (1, 1, 0, [0, 5])}
        house = {"p": P, "q": Q, "r": R, "a": R, "z": R}
        for audit, mine, theirs in itertools.product((audit_claim, audit_last), ("", "p", "qr", "pqr", "az", "apqr", "pz"),
                                                     ("", "p", "qr", "pqr", "az", "apqr", "pz")):
            want = sorted(set(mine) ^ set(theirs))
            texts = [house_text(House([(name, house[name]) for name in mine])), papers_text([(name, papers[name]) for name in theirs])]
            told = audit(*texts, "x 1\nwin\n")
            if want:
                self.assertEqual(told, ("lacks", want[0]))
            elif "z" in mine:
                self.assertEqual(told, ("wrong", "z", ("lacks", 1, 1)))
            else:
                self.assertEqual(told, ("place", 0))

    def test_papers_that_are_not_right(self):
        begin, period, gain, told = P_PAPER
        wrong = {"p": (begin, period, gain, told[:-1] + [2]), "q": (4, 2, 2, Q_PAPER[3]), "r": (1, 5, 1, R_PAPER[3])}
        faults = {"p": ("has", 13, [4, 9]), "q": ("state",), "r": ("gain",)}
        for audit, size in itertools.product((audit_claim, audit_last), (1, 2, 3)):
            for names in itertools.combinations("pqr", size):
                papers = {name: wrong[name] if name in names else PAPERS[name] for name in "pqr"}
                for claim in (WIN, "x 3\nwin\n", "q 3\nlose\n"):
                    want = ("wrong", names[0], faults[names[0]])
                    self.assertEqual(audit(PQR_TEXT, papers_text(list(papers.items())), claim), want)

    def test_names_of_the_claim(self):
        for audit in (audit_claim, audit_last):
            self.assertEqual(audit(PQR_TEXT, PAPERS_TEXT, "z 1\nr 3\nr 1\nx 9\nwin\n"), ("place", 2))
            self.assertEqual(audit(PQR_TEXT, PAPERS_TEXT, "q 1\np 3\na 1\nwin\n"), ("place", 0))
            self.assertEqual(audit(PQR_TEXT, PAPERS_TEXT, "x 10\nx 9\nq 1\nmove x 9 to none\n"), ("place", 1))
            self.assertEqual(audit(PQR_TEXT, PAPERS_TEXT, "r 3\nmove x 9 to none\n"), ("no move",))

    def test_books_that_grow_and_are_not_tame(self):
        texts = texts_of(mixed_engine())
        tame = ("tame", "b", (5, "a"))
        cases = [("q 1\n", ("grows", "q")), ("q 1\nc 5\n", ("grows", "c")), ("p 1\n", ("tame", "p", (5, "a"))), ("p 1\nb 3\n", tame),
                 ("b 1\np 2\nq 3\n", ("grows", "q")), ("r 1\np 1\nt 2\n", ("tame", "p", (5, "a"))), ("r 1\nq 9\nx 1\n", ("place", 2))]
        for (text, want), word in itertools.product(cases, ("win\n", "lose\n", "move r 1 to none\n")):
            self.assertEqual(audit_last(*texts, text + word), want)
            self.assertNotIn((audit_claim(*texts, text + word) or ("",))[0], ("grows", "tame"))
        self.assertIsNone(audit_last(*texts, "t 3\nt 3\nwin\n"))

    def test_whatever_order(self):
        house = "book r\ntake 2 to 3 leave one\ntake 1 leave none\nbook p\n" + "".join(reversed(book_text(P).splitlines(True)))
        papers = "book r\n" + paper_text(R_PAPER) + "book p\n" + paper_text(P_PAPER)
        self.assertIsNone(audit_claim(house, papers, "r 5\np 4\nwin\n"))
        self.assertEqual(audit_claim(house, papers, "r 4\np 7\nwin\n"), ("lost", [2, 2]))

    def test_nothing(self):
        self.assertIsNone(audit_claim("", "", "lose\n"))
        self.assertEqual(audit_claim("", "", "win\n"), ("lost", []))
        self.assertIsNone(audit_last("", "", "win\n"))
        self.assertEqual(audit_last("", "", "lose\n"), ("won", None))
        self.assertEqual(audit_claim("", "", ""), ("claim", 1, 1))

    def test_to_the_limits(self):
        began = time.monotonic()
        names = ["a", "b", "c", "d", "e", "f", "g", "h"]
        rng = random.Random(495)
        longer = led_paper(P_PAPER, 300, 99)
        house, papers = [(name, P) for name in names], [(name, longer) for name in names]
        for at, book in enumerate(SPLITTING):
            paper = right_paper(book, 250)
            house[at], papers[at] = (names[at], book), (names[at], paper)
        claim = ([(rng.choice(names), rng.randint(1, MOST_HEAP)) for _ in range(60)], "win", None)
        texts = (house_text(House(house)), papers_text(papers))
        for word in ("win", "lose"):
            told = audit_claim(*texts, claim_text((claim[0], word, None)))
            self.assertTrue(told is None or told[0] in ("lost", "won"))
        tame = [(name, R) for name in names]
        rows = [(name, led_paper(R_PAPER, 100, 95)) for name in names]
        told = audit_last(house_text(House(tame)), papers_text(rows), claim_text(claim))
        self.assertTrue(told is None or told[0] == "lost")
        self.assertLess(time.monotonic() - began, 25)
        self.assertIsNone(audit_paper(book_text(Book([])), paper_text((200, 200, 0, [0] * 400))))


if __name__ == "__main__":
    unittest.main()
