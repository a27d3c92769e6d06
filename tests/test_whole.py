"""Points 1 to 6 over the whole program: parameters by place and by name, in whatever order; what all parts promise together."""

import importlib
import random
import unittest
from pathlib import Path

from takeandsplit.audits import audit_claim, audit_last
from takeandsplit.booktexts import book_text
from takeandsplit.engine import Engine
from takeandsplit.houses import House
from takeandsplit.housetexts import house_text
from takeandsplit.lastplays import followed_last
from takeandsplit.lastwins import wins_last
from takeandsplit.lines import behind, followed
from takeandsplit.moves import count_moves
from takeandsplit.papertexts import paper_text, papers_text
from takeandsplit.positiontexts import claim_text
from takeandsplit.sessiontexts import write_session
from takeandsplit.tame import tame_fault
from tests.engines import PAPERS, PQR, example_engine, many_engines, names_of
from tests.samples import HOUSE, MOST_HEAP, P, Q, R, R_PAPER
from tests.tames import T, T_PAPER, tame_engines
from tests.test_sessions import example

P_PAPER = PAPERS["p"]
POSITION = [("p", 10), ("q", 5), ("r", 9)]
SMALL = [("p", 4), ("r", 3)]
TAME = [("r", 4), ("r", 1)]
MOVE = ("q", 5, [3])
CLAIM = ([("p", 4), ("r", 5)], "lose", None)
LAST = ([("r", 1), ("r", 4)], "lose", None)
PAIRS = [(T, T_PAPER), (R, R_PAPER)]
TEXTS = {"house_text": house_text(PQR), "papers_text": papers_text(list(PAPERS.items())), "claim_text": claim_text(LAST)}

# What each function is called with, by the names of its parameters in their order; what is alike for many is told by WORDS.
CALLS = {
    "books.Book": {"rules": P.rules()}, "houses.House": {"books": HOUSE.books()}, "houses.House.book": {"name": "p"},
    "booktexts.read_book": {"text": book_text(P)}, "booktexts.book_fault": {"text": "take 2 to 2"},
    "booktexts.book_goes_on": {"text": "take 2 to"}, "housetexts.read_house": {"text": house_text(HOUSE)},
    "housetexts.house_fault": {"text": "book p\nx"}, "positiontexts.read_position": {"text": "r 9\np 10\n"},
    "positiontexts.position_fault": {"text": "r 09"}, "positiontexts.claim_text": {"claim": CLAIM},
    "positiontexts.read_claim": {"text": claim_text(CLAIM)}, "positiontexts.claim_fault": {"text": "p 4\nwim"},
    "papertexts.read_paper": {"text": paper_text(R_PAPER)}, "papertexts.paper_fault": {"text": "begin 0"},
    "papertexts.papers_text": {"papers": list(PAPERS.items())}, "papertexts.read_papers": {"text": TEXTS["papers_text"]},
    "papertexts.papers_fault": {"text": "book p\nbegin x"}, "options.is_option": {"book": P, "heap": 4, "thing": [3, 1]},
    "options.option_at": {"book": P, "heap": 4, "number": 2}, "values.values_fault": {"book": P, "thing": [0, 0, 1, 2, 2]},
    "back.heaps_from": {"book": P, "option": [2], "most": 9}, "back.ends": {"book": P, "most": 9},
    "papers.is_paper": {"thing": P_PAPER}, "papers.led_paper": {"paper": R_PAPER, "begin": 3, "period": 10},
    "papers.papers_part": {"paper": R_PAPER, "other": T_PAPER}, "looks.look_end": {"book": R, "begin": 2, "period": 5},
    "looks.look_fault": {"book": R, "thing": T_PAPER}, "looks.found_paper": {"book": R, "most": 14},
    "looks.no_paper": {"book": R, "most": 13}, "looks.is_no_paper": {"book": R, "most": 13, "thing": {1: [4], 2: [3], 3: [2], 4: [2]}},
    "withvalue.heap_with": {"paper": R_PAPER, "value": 2, "number": 1}, "takings.window_at": {"book": R, "heap": 6},
    "takings.value_by": {"book": R, "window": (0, [1, 2, 0])}, "takings.takes_alone": {"book": R}, "takings.bound_of": {"book": R},
    "alonepapers.alone_paper": {"book": R, "most": 99}, "alonepapers.alone_fault": {"book": R, "thing": T_PAPER},
    "growing.base_at": {"book": Q, "heap": 6}, "growing.state_at": {"book": Q, "heap": 3},
    "growing.growing_paper": {"book": Q, "most": 6}, "growing.growing_fault": {"book": Q, "thing": R_PAPER},
    "engine.Engine": {"house": PQR, "papers": PAPERS}, "engine.Engine.value": {"position": POSITION},
    "engine.Engine.wins": {"position": POSITION}, "moves.is_move": {"house": PQR, "position": POSITION, "thing": MOVE},
    "winning.winning_number": {"engine": example_engine(), "position": POSITION, "move": ("r", 9, [6])},
    "lines.line_fault": {"house": PQR, "position": POSITION, "thing": [MOVE, None]},
    "lines.behind": {"house": PQR, "position": POSITION, "line": [MOVE]},
    "lines.followed": {"engine": example_engine(), "position": POSITION, "numbers": [1, 2]},
    "tame.tame_why": {"engine": example_engine(), "name": "p", "heap": 5},
    "tame.tame_by": {"engine": example_engine(), "name": "r", "heap": 4}, "tame.tame_fault": {"engine": example_engine(), "name": "p"},
    "tame.is_tame_fault": {"engine": example_engine(), "name": "p", "thing": (5, "a")},
    "lastplays.followed_last": {"engine": example_engine(), "position": TAME, "numbers": [3]},
    "lastplays.first_off": {"book": P, "most": 5}, "alike.parted": {"book": T, "paper": T_PAPER, "other": R, "twin": R_PAPER},
    "alike.alike_lots": {"pairs": PAIRS}, "alike.telling_heaps": {"pairs": PAIRS},
    "rulesmore.idle": {"book": T, "paper": T_PAPER, "rule": (3, 3, "one", 0, 1)},
    "rulesmore.idle_rules": {"book": T, "paper": T_PAPER, "most": 5},
    "rulesfewer.lost_without": {"book": T, "paper": T_PAPER, "rule": T.rules()[0]},
    "rulesfewer.needless": {"book": T, "paper": T_PAPER}, "rulesfewer.thinned": {"book": T, "paper": T_PAPER},
    "toldback.small_book": {"number": 7}, "toldback.book_at": {"values": [1, 2, 0], "number": 5},
    "audits.audit_paper": {"book_text": book_text(R), "paper_text": paper_text(T_PAPER)}, "audits.audit_claim": TEXTS,
    "audits.audit_last": TEXTS, "refusals.claim_refusal": {"engine": example_engine(), "claim": CLAIM},
    "refusals.is_claim_refusal": {"engine": example_engine(), "claim": CLAIM, "thing": ("won", ("p", 4, [2]))},
    "refusals.last_refusal": {"engine": example_engine(), "claim": LAST},
    "refusals.is_last_refusal": {"engine": example_engine(), "claim": LAST, "thing": ("won", ("r", 4, [2]))},
    "valuerefusals.value_refusal": {"book": P, "paper": P_PAPER, "heap": 10 ** 18, "number": 3},
    "valuerefusals.is_value_refusal": {"book": P, "paper": P_PAPER, "heap": 10 ** 18, "number": 5, "thing": ("lacks", 4)},
    "sessions.Session.do": {"deed": ("put", "p", 1)}, "sessions.Session.is_question": {"thing": ["value", "p", 3]},
    "sessions.Session.answer": {"question": ["value", "p", 3]}, "sessions.Session.would": {"deed": ("put", "p", 2)},
    "sessions.Session.at": {"number": 3}, "sessions.Session.trial": {"work": write_session},
    "sessiontexts.write_session": {"session": example()}, "sessiontexts.read_session": {"text": "hold wins\n"},
}
WORDS = {
    "book": P, "house": PQR, "heap": 4, "option": [2], "position": SMALL, "paper": R_PAPER, "most": 9, "value": 2, "engine": example_engine(),
    "number": 0, "move": MOVE, "values": [1, 2, 0],
}
LASTS = ("lastwins", "lastmoves")


def signatures():
    """Triples (module, dotted name, parameters) of all that the interface lists, but errors and what == is told by."""
    for line in (Path(__file__).parent / "interface.txt").read_text(encoding="utf-8").splitlines():
        stem, _, rest = line.partition(": ")
        for part in rest.split("; "):
            name, _, params = part.rstrip(")").partition("(")
            if not name.endswith("__eq__"):
                yield stem, name.replace(".__init__", ""), [param for param in params.split(", ") if param]


def arguments(stem, name, params):
    """A dict from the parameters to what they are called with."""
    known = CALLS.get(f"{stem}.{name}")
    if known is not None:
        return known
    told = {param: WORDS[param] for param in params}
    if "position" in told and "engine" in told:
        told["position"] = TAME if stem in LASTS else POSITION
    if "move" in told:
        told["position"] = POSITION if stem not in LASTS else TAME
        told["move"] = MOVE if stem not in LASTS else ("r", 4, [2])
    return told


def work_of(stem, name):
    """The function, class or method of a new object."""
    owner, _, method = name.partition(".")
    work = getattr(importlib.import_module(f"takeandsplit.{stem}"), owner)
    if not method:
        return work
    made = {"Book": lambda: P, "House": lambda: HOUSE, "Engine": example_engine, "Session": example}[owner]()
    return getattr(made, method)


class InterfaceTest(unittest.TestCase):
    def test_by_place_and_by_names_in_another_order(self):
        count = 0
        for stem, name, params in signatures():
            told = arguments(stem, name, params)
            self.assertEqual(list(told), params, (stem, name))
            by_place = work_of(stem, name)(*told.values())
            by_name = work_of(stem, name)(**{param: told[param] for param in reversed(params)})
            self.assertEqual(by_place, by_name, (stem, name))
            self.assertEqual(type(by_place), type(by_name))
            count += 1
        self.assertEqual(count, 138)

    def test_errors_are_right_beneath_one(self):
        for stem, name, params in signatures():
            if params and stem not in ("sessions",) and params[0] != "thing":
                things = [object() for _ in params]
                try:
                    work_of(stem, name)(*things)
                except ValueError as error:
                    self.assertEqual(type(error).__mro__[1].__name__, "HeapError", (stem, name))


class PromiseTest(unittest.TestCase):
    """Who follows the engine's moves from a won position wins against everybody, whichever way last is taken."""

    def test_plays_and_claims_go_together(self):
        rng = random.Random(531)
        for engine in [example_engine()] + list(many_engines(8, 532)) + list(tame_engines(8, 533)):
            texts = (house_text(engine.house()), papers_text(list(engine.papers().items())))
            for most in (9, 10 ** 6, MOST_HEAP):
                position = [(rng.choice(names_of(engine)), rng.randint(1, most)) for _ in range(rng.randint(1, 3))]
                wins = engine.wins(position)
                self.assertIsNone(audit_claim(*texts, claim_text((position, "win" if wins else "lose", None))))
                self.assertIsNotNone(audit_claim(*texts, claim_text((position, "lose" if wins else "win", None))))
                self.play(rng, engine, position)
                if all(tame_fault_of(engine, name) is None for name, _ in position):
                    word = "win" if wins_last(engine, position) else "lose"
                    self.assertIsNone(audit_last(*texts, claim_text((position, word, None))))

    def play(self, rng, engine, position):
        numbers = [rng.randrange(10 ** 18) for _ in range(40)]
        if engine.wins(position):
            line = followed(engine, position, numbers)
            self.assertEqual(len(line) % 2, 1)
            self.assertFalse(engine.wins(behind(engine.house(), position, line)))
        if all(tame_fault_of(engine, name) is None for name, _ in position) and wins_last(engine, position):
            line = followed_last(engine, position, numbers)
            left = behind(engine.house(), position, line)
            if len(line) % 2 == 0:
                self.assertEqual(count_moves(engine.house(), left), 0)
            else:
                self.assertFalse(wins_last(engine, left))


def tame_fault_of(engine, name):
    """As tame_fault, "grows" for a book that grows."""
    grows = any(rule[1] is None for rule in engine.house().book(name).rules())
    return "grows" if grows else tame_fault(engine, name)


class KeptTest(unittest.TestCase):
    def test_sessions_of_houses(self):
        """What one part tells another one takes."""
        session = example()
        house = session.now()
        engine = Engine(House([("p", house.book("p"))]), {"p": P_PAPER})
        self.assertIs(engine.wins(session.position()), session.answer(("wins",)))


if __name__ == "__main__":
    unittest.main()
