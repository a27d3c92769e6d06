"""Points 84 and 85: sessions as texts."""

import itertools
import random
import time
import unittest
from unittest.mock import patch

from takeandsplit import sessionforms
from takeandsplit.booktexts import book_text
from takeandsplit.errors import BadSession, BadText
from takeandsplit.housetexts import house_fault, house_text
from takeandsplit.sessions import Session
from takeandsplit.sessiontexts import read_session, write_session
from tests.plaintexts import session_goes_on, session_reads
from tests.plainsessions import EMPTY_STATE, Refused, judged, odd_parts, random_deed
from tests.samples import HOUSE, MOST_HEAP, N, P_RULES, Q_RULES, first_fault, odd_things, place_of, signs_otherwise
from tests.smalltexts import small_numbers
from tests.test_sessions import example, session_of

EXAMPLE = "book p\ntake 0 leave two when 1 of 3\ntake 1 to 2 leave one\ntake 2 leave none\nput p 3\nput p 4\nhold wins\n"


def place_by(text):
    """Where the text is wrong, None if it is read."""
    try:
        read_session(text)
    except BadText as error:
        return (error.line, error.sign)
    return None


def random_sessions(count, seed):
    """Sessions with some books, heaps and questions, by whatever deeds."""
    rng = random.Random(seed)
    for _ in range(count):
        session, state = Session(), EMPTY_STATE
        for _ in range(rng.choice([0, 3, 10, 60])):
            deed = random_deed(rng, state, odd_parts())
            try:
                state = judged(state, deed)[1]
                session.do(deed)
            except Refused:
                pass
        yield session


class WriteTest(unittest.TestCase):
    def test_example(self):
        self.assertEqual(write_session(session=example()), EXAMPLE)
        self.assertEqual(read_session(text=EXAMPLE), example())
        self.assertEqual(write_session(Session()), "")
        self.assertEqual(read_session(""), Session())

    def test_there_and_back(self):
        questions = {}
        for session in random_sessions(120, 521):
            text = write_session(session)
            other = read_session(text)
            self.assertEqual(other, session)
            self.assertEqual(write_session(other), text)
            self.assertEqual((other.count(), other.deeds(), other.undo(), other.again()), (0, [], None, None))
            self.assertEqual((other.now(), other.position(), other.watched()), (session.now(), session.position(), session.watched()))
            self.assertTrue(text.startswith(house_text(session.now())))
            questions.update({(question[0], held): True for question, _, held in session.watched()})
        self.assertEqual(len(questions), 8)

    def test_lines(self):
        asks = [("hold", ("value", "z", 7)), ("watch", ("winning",)), ("watch", ("moves",)), ("hold", ("winning",)), ("watch", ("value", "b", 7))]
        session = session_of({"z": [], "b": Q_RULES}, [("z", 10), ("z", 9), ("b", 3), ("z", 9)], asks)
        want = ("book b\ntake 1 leave none\ntake 2 or more leave one\nbook z\nput b 3\nput z 9\nput z 9\nput z 10\n"
                "hold value z 7\nhold winning\nwatch moves\nwatch value b 7\n")
        self.assertEqual(write_session(session), want)

    def test_no_sessions(self):
        for thing in odd_things():
            with self.assertRaises(BadSession) as caught:
                write_session(thing)
            self.assertIs(caught.exception.thing, thing)

    def test_it_goes_on(self):
        session = read_session(EXAMPLE)
        self.assertEqual(session.do(("put", "p", 3)), [])
        self.assertEqual((session.count(), session.undo()), (1, ("put", "p", 3)))
        self.assertEqual(session.at(0), example())
        self.assertEqual(write_session(example()), EXAMPLE)


class ReadTest(unittest.TestCase):
    def check(self, text, place):
        self.assertEqual(place_by(text), place, text)

    def test_in_whatever_order(self):
        rng = random.Random(522)
        for session in random_sessions(60, 523):
            lines = write_session(session).splitlines(keepends=True)
            books = [["book " + name + "\n"] + book_text(book).splitlines(keepends=True) for name, book in session.now().books()]
            for rows in books:
                rules = rows[1:]
                rng.shuffle(rules)
                rows[1:] = rules
            rng.shuffle(books)
            puts = [line for line in lines if line.startswith("put")]
            asks = [line for line in lines if line.startswith(("watch", "hold"))]
            rng.shuffle(puts)
            self.assertEqual(read_session("".join(itertools.chain(*books, puts, asks))), session)
            if len(asks) > 1:
                self.assertNotEqual(read_session("".join(itertools.chain(*books, puts, reversed(asks)))), session)

    def test_kinds_of_lines_in_their_order(self):
        for text, place in [
            ("book p\nput p 3\nbook q\n", (3, 1)), ("book p\nput p 3\ntake 1 leave none\n", (3, 1)), ("book p\nwatch wins\nput p 3\n", (3, 1)),
            ("hold wins\nbook p\n", (2, 1)), ("put p 3\n", (1, 1)), ("take 1 leave none\n", (1, 1)), ("book p\nwin\n", (2, 2)),
            ("book p\nput q 3\n", (2, 5)), ("book p1\nput p 3\n", (2, 6)), ("book p\nput p1 3\n", (2, 6)), ("book p\nput p 03\n", (2, 7)),
            ("book p\nput p 0\n", (2, 7)), ("book p\nput p 1000000000000000001\n", (2, 25)), ("book p\nput p 3 \n", (2, 8)),
            ("\n", (1, 1)), ("book p\n\n", (2, 1)), ("put", (1, 1)), ("p", (1, 1)), ("book p\np", (2, 2)), ("w", (1, 2)), ("x", (1, 1)),
            ("watch  wins\n", (1, 7)), ("watch wins", (1, 11)), ("watch win\n", (1, 10)), ("watch winsx", (1, 11)), ("hold lose", (1, 6)),
            ("watch value p 3\n", (1, 7)), ("watch v", (1, 7)), ("book p\nwatch v", (2, 8)), ("book p\nwatch value q 3\n", (2, 13)),
            ("book p\nhold value p 3\n", None), ("book p\nhold value p\n", (2, 13)), ("book p\nhold value p 3 3\n", (2, 15)),
            ("book p\nbook p\n", (2, 7)), ("book p\ntake 1 leave none\ntake 1 leave none\n", (3, 18)),
        ]:
            self.check(text, place)

    def test_a_question_that_stands(self):
        """It is wrong at its line feed, no sooner."""
        for text, place in [
            ("watch wins\nwatch wins\n", (2, 11)), ("watch wins\nhold wins\n", (2, 10)), ("hold wins\nwatch wins", (2, 11)),
            ("watch wins\nwatch winning\nhold w", (3, 7)), ("watch wins\nwatch winning\nhold winning\n", (3, 13)),
            ("watch wins\nwatch winning\nwatch moves\nhold moves\nhold wins\n", (4, 11)), ("watch wins\nwatch winning\nwatch winx", (3, 10)),
            ("book p\nwatch value p 4\nhold value p 4\n", (3, 15)), ("book p\nwatch value p 4\nhold value p 40\n", None),
            ("watch moves\nhold moves\nx\n", (2, 11)),
        ]:
            self.check(text, place)

    def test_sign_by_sign(self):
        """Against a plain reader, where numbers have one figure."""
        texts = ["book a\ntake 1 leave none\nbook b2\ntake 0 leave two when 1 of 3\nput a 3\nput b2 9\nwatch wins\nhold value b2 7\n",
                 "watch wins\nhold winning\nwatch moves\n", "book w\nbook p\nput p 1\nput w 2\nwatch value w 1\nhold value w 2\nwatch value p 1\n",
                 "book p\nput p 3\nput p 3\nwatch winning\nhold wins\nwatch winning\n", "hold wins\nhold wins\n", ""]
        with small_numbers(), patch.object(sessionforms, "MOST_HEAP", 9):
            for text in texts:
                for size in range(len(text) + 1):
                    self.check(text[:size], first_fault(text[:size], session_goes_on, session_reads))
                for other in signs_otherwise(text, "w1p \nb"):
                    self.check(other, first_fault(other, session_goes_on, session_reads))

    def test_lines_otherwise(self):
        """Texts of lines of all kinds in any order, against the plain reader."""
        rng = random.Random(524)
        lines = ["book p\n", "book q\n", "take 1 leave none\n", "take 2 leave one\n", "put p 3\n", "put q 3\n", "put p 4\n", "watch wins\n",
                 "hold wins\n", "watch moves\n", "hold value p 3\n", "watch value q 3\n", "watch value p 3\n"]
        some = 0
        with small_numbers(), patch.object(sessionforms, "MOST_HEAP", 9):
            for _ in range(600):
                row = [rng.choice(lines) for _ in range(rng.randint(1, 6))]
                if rng.random() < 0.6:
                    row.sort(key=lambda line: (line[0] in "wh", line[0] == "p"))
                text = "".join(row)
                want = first_fault(text, session_goes_on, session_reads)
                self.check(text, want)
                some += want is None
        self.assertGreater(some, 20)

    def test_books_as_in_houses(self):
        """Ahead of heaps and questions a text is wrong where a house's text is."""
        text = house_text(HOUSE)
        for other in itertools.islice(signs_otherwise(text, "x0\n"), 0, None, 3):
            place = house_fault(other)
            if place is None or place[1] > 1:
                self.check(other, place)
        for size in range(len(text)):
            cut = text[:size]
            self.check(cut, None if cut == "" or cut.endswith("\n") else place_of(cut, size))

    def test_no_strings(self):
        for thing in odd_things():
            if not isinstance(thing, str):
                self.check(thing, (0, 0))

    def test_great_heaps_and_more_of_all(self):
        began = time.monotonic()
        names = [f"b{number}" for number in range(30)]
        text = "".join(f"book {name}\ntake 1 to 9999999999999999999 leave one\ntake 3 leave two when 5 of 9999999999999999999\n" for name in names)
        text += "".join(f"put {name} {MOST_HEAP - number}\n" for number, name in enumerate(names))
        text += "watch wins\nhold winning\n" + "".join(f"hold value {name} {MOST_HEAP}\n" for name in names)
        session = read_session(text)
        self.assertEqual(sorted(write_session(session).splitlines()), sorted(text.splitlines()))
        self.assertEqual(read_session(write_session(session)), session)
        self.assertEqual((len(session.position()), session.count()), (30, 0))
        self.assertEqual(session.copy(), session)
        self.assertLess(time.monotonic() - began, 20)

    def test_long_texts(self):
        began = time.monotonic()
        session = session_of({"p": P_RULES, "n": N.rules(), "q": Q_RULES})
        heaps = [("p", 1 + number % 40) for number in range(900)]
        text = write_session(session) + "".join(f"put {name} {heap}\n" for name, heap in heaps)
        text += "".join(f"watch value p {heap}\n" for heap in range(1, 400))
        self.assertGreater(len(text), 12000)
        session = read_session(text)
        self.assertEqual(session.position(), sorted(heaps))
        self.check(text + "hold value p 399\n", (text.count("\n") + 1, 17))
        self.check(text + "hold value p 400\n", None)
        self.assertLess(time.monotonic() - began, 20)


if __name__ == "__main__":
    unittest.main()
