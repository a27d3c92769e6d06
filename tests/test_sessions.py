"""Points 77 to 83 and 85: sessions."""

import itertools
import random
import time
import unittest

from takeandsplit import errors
from takeandsplit.books import Book
from takeandsplit.errors import BadDeed, BadName, BadQuestion, HeapError, InUse, IsWatched, NoCount, NotWatched, WouldChange
from takeandsplit.houses import House
from takeandsplit.moves import count_moves
from takeandsplit.sessions import Session
from takeandsplit.winning import count_winning
from tests.engines import many_engines
from tests.plainplay import Refusals, no_heaps, no_numbers
from tests.plainsessions import (
    EMPTY_STATE, Refused, is_plain_question, judged, left_in, moves_in, odd_parts, plain_answer, random_deed, winning_in,
)
from tests.samples import MOST_HEAP, N, P, P_RULES, Q_RULES, odd_things


def session_of(books, heaps=(), asks=()):
    """A session with these books, heaps, and deeds of questions."""
    session = Session()
    for name, rules in books.items():
        session.do(("book", name))
        for rule in rules:
            session.do(("rule", name, rule))
    for name, heap in heaps:
        session.do(("put", name, heap))
    for deed in asks:
        session.do(deed)
    return session


def example():
    return session_of({"p": P_RULES}, [("p", 4), ("p", 3)], [("hold", ("wins",))])


def seen(session):
    """All that can be seen of a session: what it stands at, what is done, and what can be done again."""
    other = session.copy()
    more = []
    while True:
        deed = other.again()
        if deed is None:
            break
        more.append((deed, other.now().books(), other.position(), other.watched()))
    return (session.now().books(), session.position(), session.watched(), session.count(), session.deeds(), more)


class RandomTest(unittest.TestCase):
    def same_state(self, session, state):
        books, heaps, asked = state
        self.assertEqual(session.now(), House([(name, Book(rules)) for name, rules in books.items()]))
        self.assertEqual(session.position(), heaps)
        self.assertEqual(session.watched(), [(question, plain_answer(state, question), held) for question, held in asked])

    def refused(self, work, deed, refusal):
        with self.assertRaises(HeapError) as caught:
            work(deed)
        error = caught.exception
        self.assertIs(type(error), getattr(errors, refusal.kind), deed)
        for name, thing in refusal.held.items():
            if name in ("thing", "rule"):
                self.assertIs(getattr(error, name), thing)
            elif name in ("question", "name"):
                self.assertEqual(getattr(error, name), thing)
                self.assertIs(type(getattr(error, name)), type(thing))
        if refusal.kind == "WouldChange":
            self.right_why(refusal.held["behind"], refusal.held["question"], refusal.held["answers"], error.why)

    def right_why(self, behind, question, answers, why):
        if question != ("wins",):
            self.assertEqual((why, type(why)), (answers, tuple))
            return
        if answers[1]:
            self.assertIn(why, winning_in(behind))
            self.assertEqual([type(part) for part in (why, why[2])], [tuple, list])
            return
        self.assertIs(type(why), list)
        self.assertEqual([move for move, _ in why], moves_in(behind))
        for move, reply in why:
            self.assertIn(reply, winning_in((behind[0], left_in(behind[1], move), [])))
        self.assertEqual({type(pair) for pair in why} | {type(part) for pair in why for part in pair}, {tuple} if why else set())

    def step(self, rng, session, states, deeds, kinds):
        """One deed, or one taken back, done again; states and deeds are those of the trail, their number is session.count()."""
        at = session.count()
        state = states[at]
        if rng.random() < 0.1:
            self.assertEqual(session.undo(), deeds[at - 1] if at else None)
        elif rng.random() < 0.1:
            self.assertEqual(session.again(), deeds[at] if at < len(deeds) else None)
        else:
            deed = random_deed(rng, state, odd_parts())
            before = seen(session)
            try:
                told = judged(state, deed, True)[2]
                self.assertEqual(session.would(deed), told)
            except Refused as refusal:
                self.refused(session.would, deed, refusal)
            self.assertEqual(seen(session), before)
            try:
                kept, behind, told = judged(state, deed)
                self.assertEqual(session.do(deed), told)
                del states[at + 1:], deeds[at:]
                states.append(behind)
                deeds.append(kept)
                kinds[deed[0], bool(told)] = True
            except Refused as refusal:
                self.refused(session.do, deed, refusal)
                self.assertEqual(seen(session), before)
                kinds[refusal.kind] = True
        self.same_state(session, states[session.count()])
        self.assertEqual(session.deeds(), deeds[:session.count()])

    def test_deeds_of_every_kind(self):
        kinds = {}
        for seed in range(150):
            rng = random.Random(5010 + seed)
            session, states, deeds = Session(), [EMPTY_STATE], []
            for _ in range(70):
                self.step(rng, session, states, deeds, kinds)
            for number in range(session.count() + 1):
                other = session.at(number)
                self.same_state(other, states[number])
                self.assertEqual((other.count(), other.deeds(), other.again()), (number, deeds[:number], None))
        words = ("book", "close", "rule", "drop", "put", "move", "watch", "hold", "free")
        self.assertLessEqual({(word, False) for word in words}, set(kinds))
        self.assertLessEqual({(word, True) for word in ("rule", "drop", "put", "move")}, set(kinds))
        wanted = {"BadDeed", "BadName", "InPlay", "BadRule", "HasRule", "NoRule", "BadHeap", "BadOption", "BadQuestion", "IsWatched",
                  "NotWatched", "InUse", "WouldChange"}
        self.assertLessEqual(wanted, set(kinds))

    def test_questions(self):
        rng = random.Random(502)
        session, states, deeds = Session(), [EMPTY_STATE], []
        for _ in range(80):
            self.step(rng, session, states, deeds, {})
            state = states[session.count()]
            for thing in [("wins",), ["moves"], ("winning",), ("value", "p", 5), ["value", "q", 3], ("value", "p", 0), ("wins", 1)]:
                is_one = is_plain_question(state, thing)
                self.assertIs(session.is_question(thing), is_one)
                if is_one:
                    answer = session.answer(thing)
                    self.assertEqual((answer, type(answer)), (plain_answer(state, thing), bool if thing[0] == "wins" else int))

    def test_heaps_to_forty_against_engines(self):
        rng = random.Random(505)
        for engine in many_engines(25, 506):
            books = {name: book.rules() for name, book in engine.house().books()}
            heaps = [(rng.choice(list(books)), rng.randint(1, 40)) for _ in range(rng.randint(1, 6))]
            session = session_of(books, heaps)
            self.assertEqual(session.answer(("winning",)), count_winning(engine, heaps))
            self.assertEqual(session.answer(("moves",)), count_moves(engine.house(), heaps))
            self.assertIs(session.answer(("wins",)), engine.wins(heaps))
            for pair in itertools.product(books, (1, 17, 40)):
                self.assertEqual(session.answer(("value",) + pair), engine.value([pair]))


class DeedsTest(Refusals, unittest.TestCase):
    def test_begin(self):
        session = Session()
        self.assertEqual((session.now(), session.position(), session.watched(), session.count(), session.deeds()),
                         (House([]), [], [], 0, []))
        self.assertIsNone(session.undo())
        self.assertIsNone(session.again())
        self.assertEqual([session.answer([word]) for word in ("wins", "moves", "winning")], [False, 0, 0])

    def test_example(self):
        session = example()
        self.assertEqual(session.watched(), [(("wins",), True, True)])
        with self.assertRaises(WouldChange) as caught:
            session.do(deed=("put", "p", 2))
        self.assertEqual(caught.exception.question, ("wins",))
        self.assertEqual(session.would(deed=("put", "p", 2)), [(("wins",), True, False)])
        self.assertEqual(session.now(), House([("p", P)]))

    def test_what_a_deed_returns(self):
        session = session_of({"p": P_RULES}, [("p", 4)], [("watch", ("wins",)), ("watch", ("moves",)), ("watch", ["value", "p", 3])])
        told = session.do(("put", "p", 4))
        self.assertEqual(told, [(("wins",), True, False)])
        self.assertEqual([type(part) for part in (told, told[0], told[0][0])], [list, tuple, tuple])
        self.assertEqual(session.do(["move", "p", 4, (3, 1)]), [(("wins",), False, True), (("moves",), 4, 6)])
        self.assertEqual(session.do(("drop", "p", (1, 2, "one", 0, 1))), [(("moves",), 6, 2), (("value", "p", 3), 2, 0)])
        for deed in [("book", "q"), ("hold", ("wins",)), ("free", ("moves",)), ("watch", ("winning",)), ("close", "q")]:
            self.assertEqual(session.do(deed), [])
        session.do(("hold", ("winning",))).append(5)
        self.assertEqual([question for question, _, _ in session.watched()], [("wins",), ("value", "p", 3), ("winning",)])

    def test_deeds_are_kept_as_tuples(self):
        session = Session()
        rule, option, question = [0, 0, "two", 0, 1], [3, 1], ["value", "a", 4]
        for deed in (["book", "a"], ["rule", "a", rule], ["put", "a", 4], ["move", "a", 4, option], ["watch", question], ["hold", question],
                     ["free", question], ["drop", "a", rule]):
            session.do(deed)
        rule.clear()
        option.clear()
        question.clear()
        want = [("book", "a"), ("rule", "a", (0, 0, "two", 0, 1)), ("put", "a", 4), ("move", "a", 4, (1, 3)),
                ("watch", ("value", "a", 4)), ("hold", ("value", "a", 4)), ("free", ("value", "a", 4)), ("drop", "a", (0, 0, "two", 0, 1))]
        self.assertEqual(session.deeds(), want)
        self.assertEqual([session.undo() for _ in range(8)], want[::-1])
        self.assertEqual([session.again() for _ in range(8)], want)
        for told in (session.deeds(), session.position(), session.watched()):
            told.append(1)
        self.assertEqual((session.deeds(), session.position()), (want, [("a", 1), ("a", 3)]))

    def test_hold_in_its_place(self):
        session = session_of({"p": P_RULES}, [], [("watch", ("wins",)), ("watch", ("moves",)), ("hold", ("wins",)), ("hold", ("winning",))])
        self.assertEqual(session.watched(), [(("wins",), False, True), (("moves",), 0, False), (("winning",), 0, True)])
        session.do(("free", ("wins",)))
        session.do(("watch", ("wins",)))
        self.assertEqual([row[0][0] for row in session.watched()], ["moves", "winning", "wins"])

    def test_like_heaps(self):
        session = session_of({"p": P_RULES}, [("p", 4), ("p", 4), ("p", 4)])
        session.do(("move", "p", 4, [2]))
        self.assertEqual(session.position(), [("p", 2), ("p", 4), ("p", 4)])

    def test_growing_books(self):
        session = session_of({"q": Q_RULES}, [("q", 5), ("q", 6)])
        self.assertEqual(session.answer(("value", "q", 6)), 3)
        self.assertEqual(session.answer(("winning",)), 1)
        with self.assertRaises(HeapError) as caught:
            session.do(("rule", "q", (1, 1, "two", 0, 1)))
        self.assertIs(type(caught.exception), errors.HasRule)

    def test_great_heaps_are_put(self):
        session = session_of({"p": P_RULES}, [("p", MOST_HEAP), ("p", MOST_HEAP)])
        session.do(("book", "x"))
        session.do(("move", "p", MOST_HEAP, [MOST_HEAP - 1]))
        self.assertEqual(session.position(), [("p", MOST_HEAP - 1), ("p", MOST_HEAP)])
        self.assertEqual(session.answer(("moves",)), 5 * 10 ** 17 + 2 + 2)
        session.do(("watch", ("wins",)))
        session.do(("watch", ("value", "x", MOST_HEAP)))
        session.do(("free", ("wins",)))
        self.assertEqual(session.count(), 11)

    def test_each_error_at_each_part(self):
        session = session_of({"p": P_RULES, "q": Q_RULES, "e": []}, [("p", 4)], [("watch", ("wins",)), ("hold", ("moves",))])
        for thing in odd_things():
            self.refuses(BadDeed, {"thing": thing}, session.do, thing)
            for deed in ((thing, "p"), [thing], ("book", "p", thing), ("put", "p", 3, thing), ("move", "p", thing), (thing, "p", 3)):
                self.refuses(BadDeed, {"thing": deed}, session.do, deed)
                self.refuses(BadDeed, {"thing": deed}, session.would, deed)
            if thing not in ("x" * 8, "p1", "p"):
                self.refuses(BadName, {"thing": thing}, session.do, ("book", thing))
            for deed in (["close", thing], ("rule", thing, None), ("drop", thing, None), ("put", thing, None), ("move", thing, None, None)):
                if thing != "p":
                    self.refuses(BadName, {"thing": thing}, session.do, deed)
            for word, rest in [("put", ()), ("move", (None,))]:
                if thing in no_heaps([thing]):
                    self.refuses(errors.BadHeap, {"thing": thing}, session.do, (word, "p", thing) + rest)
            for word in ("rule", "drop"):
                if thing not in ((1, 1, "none", 0, 1), [1, 1, "none", 0, 1]):
                    self.refuses(errors.BadRule, {"thing": thing}, session.do, (word, "p", thing))
            for word in ("watch", "hold", "free"):
                self.refuses(BadQuestion, {"thing": thing}, session.do, (word, thing))
            if thing not in ([2], [3]):
                self.refuses(errors.BadOption, {"thing": thing}, session.do, ("move", "p", 4, thing))
            self.refuses(BadQuestion, {"thing": thing}, session.answer, thing)
            self.assertIs(session.is_question(thing), False)
        self.refuses(BadName, {"thing": "p"}, session.do, ("book", "p"))

    def test_errors_of_what_is_there(self):
        session = session_of({"p": P_RULES, "q": Q_RULES, "e": []}, [("p", 4)], [("watch", ("wins",)), ("hold", ("moves",))])
        rule, growing, heap = [2, 2, "none", 0, 1], [3, None, "one", 0, 1], 5
        self.refuses(errors.InPlay, {"name": "p"}, session.do, ("close", "p"))
        self.refuses(errors.HasRule, {"rule": rule}, session.do, ("rule", "p", rule))
        self.refuses(errors.HasRule, {"rule": growing}, session.do, ("rule", "p", growing))
        two = (0, 0, "two", 0, 1)
        self.refuses(errors.HasRule, {"rule": two}, session.do, ("rule", "q", two))
        self.refuses(errors.NoRule, {"thing": two}, session.do, ("drop", "p", two))
        self.refuses(errors.NoRule, {"thing": rule}, session.do, ("drop", "e", rule))
        self.refuses(errors.BadHeap, {"thing": heap}, session.do, ("move", "p", heap, None))
        self.refuses(errors.BadHeap, {"thing": 4}, session.do, ("move", "q", 4, [2]))
        for option in ([4], [1], [1, 1], [], [2, 2, 2], (3, 2)):
            self.refuses(errors.BadOption, {"thing": option}, session.do, ("move", "p", 4, option))
        for word, question in [("watch", ["wins"]), ("watch", ["moves"]), ("hold", ["moves"])]:
            with self.assertRaises(IsWatched) as caught:
                session.do((word, question))
            self.assertEqual(caught.exception.question, tuple(question))
        with self.assertRaises(NotWatched) as caught:
            session.do(("free", ["winning"]))
        self.assertEqual(caught.exception.question, ("winning",))
        self.assertEqual(session.do(("hold", ["wins"])), [])

    def test_no_questions(self):
        session = session_of({"p": P_RULES})
        odd = [("win",), ("wins", "p"), ("value", "p"), ("value", "q", 3), ("value", "p", 0), ("value", "p", True), ("value", "p", MOST_HEAP + 1),
               ("value", 3, "p"), ("Wins",), (("wins",),), [["wins"]], ("value", ["p"], 3), ("value", "p", 3, 4)]
        for thing in odd:
            self.assertIs(session.is_question(thing=thing), False)
            for word in ("watch", "hold", "free"):
                self.refuses(BadQuestion, {"thing": thing}, session.do, (word, thing))
            self.refuses(BadQuestion, {"thing": thing}, session.answer, thing)
        for thing in (("wins",), ["wins"], ("value", "p", MOST_HEAP), ["value", "p", 1]):
            self.assertIs(session.is_question(thing), True)
        self.assertEqual(session.answer(question=["value", "p", 4]), 3)

    def test_several_errors_in_their_order(self):
        session = session_of({"p": P_RULES}, [("p", 4)], [("hold", ("wins",)), ("watch", ("value", "p", 4))])
        self.refuses(BadName, {"thing": "z"}, session.do, ("move", "z", None, None))
        self.refuses(errors.BadHeap, {"thing": None}, session.do, ("move", "p", None, None))
        self.refuses(errors.InPlay, {"name": "p"}, session.do, ("close", "p"))
        session.do(("put", "p", 1))
        other = session_of({"p": P_RULES, "x": []}, [("p", 4)], [("watch", ("value", "x", 4)), ("hold", ("wins",)), ("watch", ("value", "x", 3))])
        with self.assertRaises(InUse) as caught:
            other.do(["close", "x"])
        self.assertEqual((caught.exception.question, type(caught.exception.question)), (("value", "x", 4), tuple))
        with self.assertRaises(InUse):
            other.would(["close", "x"])
        other.do(("free", ("value", "x", 4)))
        with self.assertRaises(InUse) as caught:
            other.do(["close", "x"])
        self.assertEqual(caught.exception.question, ("value", "x", 3))
        other.do(("free", ("value", "x", 3)))
        self.assertEqual(other.do(["close", "x"]), [])

    def test_first_held_one_as_they_came(self):
        asks = [("watch", ("moves",)), ("watch", ("winning",)), ("hold", ("wins",)), ("hold", ("winning",))]
        session = session_of({"p": P_RULES}, [("p", 4)], asks)
        with self.assertRaises(WouldChange) as caught:
            session.do(("put", "p", 4))
        self.assertEqual((caught.exception.question, caught.exception.why), (("winning",), (1, 0)))
        with self.assertRaises(WouldChange) as caught:
            session.do(("move", "p", 4, [2, 2]))
        self.assertEqual((caught.exception.question, caught.exception.why), (("winning",), (1, 0)))

    def test_why(self):
        session = session_of({"p": P_RULES}, [("p", 3), ("p", 3)], [("hold", ("wins",))])
        with self.assertRaises(WouldChange) as caught:
            session.do(("put", "p", 4))
        state = ({"p": P_RULES}, [("p", 3), ("p", 3), ("p", 4)], [])
        self.assertIn(caught.exception.why, winning_in(state))
        caught.exception.why[2].append(9)
        with self.assertRaises(WouldChange) as caught:
            session.do(("put", "p", 4))
        self.assertIn(caught.exception.why, winning_in(state))
        session = example()
        with self.assertRaises(WouldChange) as caught:
            session.do(("move", "p", 4, [3]))
        why = caught.exception.why
        self.assertEqual([move for move, _ in why], [("p", 3, [1]), ("p", 3, [2])])
        options = [part[2] for pair in why for part in pair]
        self.assertEqual(len({id(option) for option in options}), len(options))
        for question, deed, why in [(("moves",), ("put", "p", 1), None), (("moves",), ("put", "p", 2), (2, 4)),
                                    (("value", "p", 4), ("drop", "p", (1, 2, "one", 0, 1)), (3, 1))]:
            session = session_of({"p": P_RULES}, [("p", 3)], [("hold", question)])
            if why is None:
                self.assertEqual(session.do(deed), [])
                continue
            with self.assertRaises(WouldChange) as caught:
                session.do(deed)
            self.assertEqual((caught.exception.question, caught.exception.why), (question, why))

    def test_no_moves_left(self):
        session = session_of({"e": []}, [], [("hold", ("wins",))])
        session.do(("put", "e", 5))
        self.assertEqual(session.watched(), [(("wins",), False, True)])
        session = session_of({"r": [(1, 1, "none", 0, 1)]}, [("r", 1)], [("hold", ("wins",))])
        with self.assertRaises(WouldChange) as caught:
            session.do(("move", "r", 1, []))
        self.assertEqual(caught.exception.why, [])

    def test_facts(self):
        rng = random.Random(503)
        for rules in (P_RULES, Q_RULES, N.rules()):
            session = session_of({"a": rules}, [("a", rng.randint(1, 9)) for _ in range(3)])
            for heap in (1, 4, 9):
                wins = session.answer(("wins",))
                session.do(("put", "a", heap))
                session.do(("put", "a", heap))
                self.assertEqual(session.answer(("wins",)), wins)
            state = ({"a": rules}, session.position(), [])
            for move in winning_in(state):
                other = session.copy()
                other.do(("move",) + move)
                self.assertIs(other.answer(("wins",)), False)
            session.do(("book", "b"))
            before = session.watched()
            session.do(("rule", "b", (1, 3, "none", 0, 1)))
            self.assertEqual(session.watched(), before)


class TrailTest(Refusals, unittest.TestCase):
    def test_undo_and_again_whatever_is_held(self):
        session = session_of({"p": P_RULES}, [("p", 4)])
        session.do(("put", "p", 4))
        session.do(("hold", ("wins",)))
        for _ in range(2):
            self.assertEqual(session.undo(), ("hold", ("wins",)))
            self.assertEqual(session.undo(), ("put", "p", 4))
            self.assertEqual((session.position(), session.watched()), ([("p", 4)], []))
            self.assertEqual(session.again(), ("put", "p", 4))
            self.assertEqual(session.again(), ("hold", ("wins",)))
            self.assertIsNone(session.again())
        self.assertEqual(session.watched(), [(("wins",), False, True)])

    def test_a_deed_ends_what_can_be_done_again(self):
        session = example()
        many = session.count()
        session.undo()
        session.undo()
        session.do(("put", "p", 1))
        self.assertIsNone(session.again())
        self.assertEqual((session.count(), session.position()), (many - 1, [("p", 1), ("p", 4)]))
        session.undo()
        for deed in (("put", "p", None), None, ("free", ("moves",))):
            with self.assertRaises(HeapError):
                session.do(deed)
        session.would(("put", "p", 5))
        self.assertEqual(session.again(), ("put", "p", 1))

    def test_all_the_way_back(self):
        session = example()
        deeds = session.deeds()
        self.assertEqual([session.undo() for _ in deeds], deeds[::-1])
        self.assertIsNone(session.undo())
        self.assertEqual((session, session.count(), session.deeds()), (Session(), 0, []))
        self.assertEqual([session.again() for _ in deeds], deeds)
        self.assertEqual(session, example())

    def test_copies_go_on_by_themselves(self):
        session = example()
        session.undo()
        other = session.copy()
        self.assertEqual(seen(other), seen(session))
        before = seen(session)
        other.do(("put", "p", 9))
        other.do(("book", "z"))
        self.assertEqual(seen(session), before)
        self.assertNotEqual(other, session)
        third = other.copy()
        other.undo()
        other.undo()
        self.assertEqual(other, session)
        self.assertIsNone(third.again())
        self.assertEqual(session.again(), ("hold", ("wins",)))

    def test_former_ones(self):
        session = example()
        session.undo()
        deeds = session.deeds()
        for number in range(session.count() + 1):
            other = session.at(number=number)
            self.assertEqual((other.count(), other.deeds()), (number, deeds[:number]))
            self.assertIsNone(other.again())
            before = seen(session)
            other.do(("book", "zz"))
            other.undo()
            self.assertEqual([other.undo() for _ in range(number)], deeds[:number][::-1])
            self.assertEqual(seen(session), before)
        for thing in no_numbers(odd_things()) + [session.count() + 1, 10 ** 30]:
            self.refuses(NoCount, {"thing": thing}, session.at, thing)
        self.assertEqual(session.at(0), Session())

    def test_trials(self):
        session = example()
        session.undo()
        before = seen(session)

        def work(inner):
            self.assertIs(inner, session)
            inner.do(("put", "p", 9))
            inner.undo()
            inner.undo()
            inner.do(("book", "x"))
            return [inner.count(), inner.now().books()[-1][0]]

        self.assertEqual(session.trial(work=work), [len(before[4]), "x"])
        self.assertEqual(seen(session), before)
        self.assertEqual(session.again(), ("hold", ("wins",)))

    def test_trials_by_an_error(self):
        session = example()
        before = seen(session)
        for error in (KeyError("x"), HeapError(), ZeroDivisionError()):
            def work(inner, error=error):
                inner.do(("book", "x"))
                raise error

            with self.assertRaises(type(error)) as caught:
                session.trial(work)
            self.assertIs(caught.exception, error)
            self.assertEqual(seen(session), before)
        with self.assertRaises(WouldChange):
            session.trial(lambda inner: [inner.do(("book", "y")), inner.do(("put", "p", 2))])
        self.assertEqual(seen(session), before)

    def test_trials_within_one_another(self):
        session = example()
        session.undo()
        depths = []

        def work(inner):
            before = seen(inner)
            inner.do(("put", "p", 7 + len(depths)))
            depths.append(inner.count())
            if len(depths) < 6:
                inner.trial(work)
            elif len(depths) == 6:
                depths.append(0)
                raise KeyError("deep")
            self.assertNotEqual(seen(inner), before)
            return before

        before = seen(session)
        with self.assertRaises(KeyError):
            session.trial(work)
        self.assertEqual(depths[:6], [session.count() + more for more in range(1, 7)])
        self.assertEqual(seen(session), before)
        copies = session.trial(lambda inner: [inner.do(("book", "k")), inner.copy(), inner.at(1)][1:])
        self.assertEqual([other.count() for other in copies], [session.count() + 1, 1])
        self.assertEqual(copies[0].undo(), ("book", "k"))
        self.assertEqual(seen(session), before)

    def test_equal_ones(self):
        one, other = Session(), Session()
        self.assertEqual(one, other)
        for deed in [("book", "a"), ("book", "b"), ("put", "a", 2), ("put", "b", 1), ("watch", ("wins",)), ("watch", ("moves",))]:
            one.do(deed)
        for deed in [("book", "b"), ("put", "b", 1), ("book", "a"), ("put", "a", 2), ("watch", ("wins",)), ("watch", ("moves",))]:
            self.assertNotEqual(one, other)
            other.do(deed)
        self.assertEqual(one, other)
        for deed in [("put", "a", 2), ("rule", "a", (1, 1, "none", 0, 1)), ("watch", ("winning",)), ("hold", ("wins",)), ("book", "c")]:
            other.do(deed)
            self.assertNotEqual(one, other)
            other.undo()
            self.assertEqual(one, other)
        other.do(("free", ("wins",)))
        other.do(("watch", ("wins",)))
        self.assertNotEqual(one, other)
        for thing in odd_things() + [one.now(), one.position()]:
            self.assertIs(one == thing, False)

    def test_unlike_tuples_are_unlike_questions(self):
        session = session_of({"p": P_RULES})
        for heap in (3, 4, 5):
            session.do(("watch", ("value", "p", heap)))
        self.assertEqual([answer for _, answer, _ in session.watched()], [2, 3, 0])


class LimitsTest(unittest.TestCase):
    def test_all_moves_of_great_positions(self):
        began = time.monotonic()
        rules = [(0, 12, "two", 0, 1), (1, 12, "one", 0, 1)]
        asks = [("watch", ("moves",)), ("watch", ("winning",)), ("hold", ("wins",)), ("watch", ("value", "a", 40))]
        session = session_of({name: rules for name in "abcd"}, [("a", 40), ("b", 40), ("a", 39), ("b", 39), ("c", 38)], asks)
        with self.assertRaises(WouldChange) as caught:
            session.do(("put", "d", 38))
        self.assertEqual(session.undo(), asks[-1])
        self.assertEqual(session.undo(), asks[-2])
        session.do(("put", "d", 38))
        self.assertEqual(session.answer(("wins",)), False)
        why = caught.exception.why
        self.assertEqual(len(why), session.answer(("moves",)))
        self.assertGreater(len(why), 1000)
        for move, reply in why[::60]:
            other = session.copy()
            other.do(("move",) + move)
            other.do(("move",) + reply)
            self.assertEqual(other.answer(("wins",)), False)
        for heap in (40, 37, 38, 39, 36):
            session.trial(lambda inner, heap=heap: inner.would(("put", "c", heap)))
        self.assertLess(time.monotonic() - began, 20)

    def test_forty_deeds(self):
        began = time.monotonic()
        rng = random.Random(504)
        session = session_of({"p": P_RULES, "n": N.rules()}, [("p", 40), ("n", 40), ("p", 39)],
                             [("watch", (word,)) for word in ("wins", "moves", "winning")] + [("watch", ("value", "p", heap)) for heap in (38, 39, 40)])
        for _ in range(30):
            state = ({"p": P_RULES, "n": N.rules()}, session.position(), [])
            moves = moves_in(state)
            if moves:
                session.do(("move",) + rng.choice(moves))
        for number in range(session.count() + 1):
            session.at(number).watched()
        self.assertLess(time.monotonic() - began, 20)


if __name__ == "__main__":
    unittest.main()
