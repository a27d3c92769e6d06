"""Points 73, 74 and 76: claims refused, where who takes last wins and where who takes last loses."""

import itertools
import random
import time
import unittest

from takeandsplit import errors
from takeandsplit.engine import Engine
from takeandsplit.errors import BadClaim, BadEngine
from takeandsplit.houses import House
from takeandsplit.lastmoves import count_last, last_at
from takeandsplit.lastwins import wins_last
from takeandsplit.moves import count_moves, move_at, moved
from takeandsplit.papers import led_paper
from takeandsplit.refusals import claim_refusal, is_claim_refusal, is_last_refusal, last_refusal
from takeandsplit.winning import count_winning, winning_at
from tests.engines import PAPERS, example_engine, many_engines, names_of
from tests.plainplay import Refusals, plain_behind, plain_moves, random_position
from tests.samples import MOST_HEAP, P, R, odd_things
from tests.tames import NOT_ALL_TAME, mixed_engine, plain_lost, tame_engines, told_values


class First:
    """Where who takes last wins."""

    refusal, is_refusal = staticmethod(claim_refusal), staticmethod(is_claim_refusal)

    @staticmethod
    def lost(engine, position):
        return engine.value(position) == 0

    @staticmethod
    def engines(count, seed):
        return [example_engine()] + list(many_engines(count, seed))


class Last:
    """Where who takes last loses."""

    refusal, is_refusal = staticmethod(last_refusal), staticmethod(is_last_refusal)

    @staticmethod
    def lost(engine, position):
        return plain_lost(told_values(engine, position))

    @staticmethod
    def engines(count, seed):
        return list(tame_engines(count, seed))


def plain_refusals(game, engine, claim):
    """The list of all that refuses the claim, options ascending."""
    position, word, move = claim
    house = engine.house()

    def won(word, place):
        """All that shows a place to be won."""
        moves = plain_moves(house, place)
        wins = [(word, move) for move in moves if game.lost(engine, plain_behind(place, move))]
        return wins if moves or game.lost(engine, place) else [(word, None)]

    if word == "move":
        if move not in plain_moves(house, position):
            return [("no move",)]
        return won("answer", plain_behind(position, move))
    if word == "lose":
        return won("won", position)
    if game.lost(engine, position):
        return [("lost", [engine.value([pair]) for pair in sorted(tuple(pair) for pair in position)])]
    return []


def turned(thing):
    """The same refusal, its option the other way about, lists for tuples."""
    if len(thing) == 1 or thing[1] is None or thing[0] == "lost":
        return list(thing)
    name, heap, option = thing[1]
    return [thing[0], [name, heap, tuple(option[::-1])]]


def near_ones(position, moves, told):
    """Things that might be refusals: of each word, with moves, values, nothing."""
    rows = [told, sorted(told), told[::-1], told[1:], told + [0], [value + 1 for value in told], [], [True] * len(told), None]
    near = [("no move",), ("no move", None), ("won", None), ("answer", None), ("lost",), ("won",), ("answer",), ("move",)]
    near += [("lost", row) for row in rows] + [("won", row) for row in rows]
    near += [(word, move) for word in ("won", "answer", "lost", "move", "no move") for move in moves]
    near += [(word, 0, move) for word in ("won", "answer") for move in moves] + [("won", move[:2]) for move in moves[:2]] + [("won", move, 0) for move in moves[:2]]
    return near


class SmallTest(Refusals, unittest.TestCase):
    def same(self, game, engine, claim):
        position = claim[0]
        every = plain_refusals(game, engine, claim)
        told = game.refusal(engine, claim)
        # Just one: a claim is right, or one of these is there.
        if not every:
            self.assertIsNone(told, claim)
        else:
            self.assertIn(told, every, claim)
        moves = plain_moves(engine.house(), position)
        if claim[1] == "move" and claim[2] in moves:
            moves = moves + plain_moves(engine.house(), plain_behind(position, claim[2]))
        values = [engine.value([pair]) for pair in sorted(tuple(pair) for pair in position)]
        for thing in every + near_ones(position, moves, values):
            wanted = thing in every and not any(part is True for part in thing[-1] or ())
            self.assertIs(game.is_refusal(engine, claim, thing), wanted, (claim, thing))
            if wanted:
                self.assertIs(game.is_refusal(engine, claim, turned(thing)), True, (claim, thing))
        return told

    def claims(self, rng, engine, position):
        moves = plain_moves(engine.house(), position)
        yield (position, "win", None)
        yield (position, "lose", None)
        for move in rng.sample(moves, min(4, len(moves))):
            yield (position, "move", move)
        name = rng.choice(names_of(engine))
        yield (position, "move", (name, rng.randint(1, 9), [rng.randint(1, 9)]))
        yield (position, "move", ("nobody", 3, []))

    def test_by_going_through(self):
        rng = random.Random(481)
        for game, most in ((First, 22), (Last, 22)):
            kinds = {}
            for engine in game.engines(18, 482):
                for _ in range(5):
                    position = random_position(rng, names_of(engine), rng.choice([4, 9, most]))
                    for claim in self.claims(rng, engine, position):
                        told = self.same(game, engine, claim)
                        kinds[claim[1], told and told[0], told and told[-1] is None] = True
            wanted = {("win", None, None), ("win", "lost", False), ("lose", None, None), ("lose", "won", False),
                      ("move", None, None), ("move", "no move", False), ("move", "answer", False)}
            if game is Last:
                wanted |= {("lose", "won", True), ("move", "answer", True)}
            self.assertEqual(set(kinds), wanted)

    def test_no_heaps_and_no_moves(self):
        engine = example_engine()
        for position in ([], [("r", 2)], [("r", 2)] * 2):
            for claim in [(position, "win", None), (position, "lose", None), (position, "move", ("r", 2, [1])),
                          (position, "move", ("r", 1, []))]:
                self.same(First, engine, claim)
                self.same(Last, engine, claim)
        self.assertEqual(claim_refusal(engine, ([], "win", None)), ("lost", []))
        self.assertIsNone(claim_refusal(engine, ([], "lose", None)))
        self.assertEqual(last_refusal(engine, ([], "lose", None)), ("won", None))
        self.assertIsNone(last_refusal(engine, ((), "win", None)))
        self.assertEqual(last_refusal(engine, ([("r", 1)], "move", ("r", 1, []))), ("answer", None))
        self.assertIs(is_last_refusal(engine, ([("r", 1)], "move", ("r", 1, [])), ["answer", None]), True)
        self.assertIsNone(claim_refusal(engine, ([("r", 1)], "move", ("r", 1, []))))

    def test_examples(self):
        engine = example_engine()
        position = [("p", 4), ("r", 5)]
        claim = (position, "lose", None)
        self.assertIs(is_claim_refusal(engine=engine, claim=claim, thing=("won", ("p", 4, [2]))), True)
        self.assertEqual(claim_refusal(engine=engine, claim=claim)[0], "won")
        claim = (position, "move", ("p", 4, [3]))
        self.assertIs(is_claim_refusal(engine, claim, ("answer", ("p", 3, [2]))), True)
        self.assertEqual(claim_refusal(engine, claim)[0], "answer")
        self.assertEqual(claim_refusal(engine, ([("p", 7), ("p", 3)], "win", None)), ("lost", [2, 2]))
        claim = [[["r", 1], ["r", 4]], "lose", None]
        self.assertEqual(last_refusal(engine=engine, claim=claim), ("won", ("r", 4, [2])))
        self.assertIs(is_last_refusal(engine=engine, claim=claim, thing=["won", ["r", 4, (2,)]]), True)
        self.assertEqual(last_refusal(engine, ([("r", 1)], "win", None)), ("lost", [1]))

    def test_values_in_the_order_of_the_position(self):
        """The told order of the position is ascending: so its values need not be."""
        engine = example_engine()
        position = [("r", 4), ("p", 4), ("r", 1), ("q", 1)]
        self.assertEqual(engine.value(position), 1)
        position = [("r", 4), ("p", 4), ("q", 1)]
        values = [engine.value([pair]) for pair in sorted(position)]
        self.assertEqual((engine.value(position), values), (0, [3, 1, 2]))
        claim = (position, "win", None)
        self.assertEqual(claim_refusal(engine, claim), ("lost", [3, 1, 2]))
        for row in itertools.permutations(values):
            self.assertIs(is_claim_refusal(engine, claim, ("lost", row)), row == (3, 1, 2))

    def test_where_both_are_alike(self):
        """With a value above 1 in the position, and in what a told move leaves, both ways to play refuse alike."""
        rng = random.Random(483)
        for engine in tame_engines(25, 484):
            for _ in range(8):
                position = random_position(rng, names_of(engine), 30)
                for claim in self.claims(rng, engine, position):
                    moves = plain_moves(engine.house(), position)
                    places = [position] + ([plain_behind(position, claim[2])] if claim[2] in moves else [])
                    if all(max(told_values(engine, place), default=0) > 1 for place in places):
                        one, other = claim_refusal(engine, claim), last_refusal(engine, claim)
                        self.assertEqual(one is None, other is None)

    def test_lost_values(self):
        rng = random.Random(485)
        seen = {}
        for engine in tame_engines(40, 486):
            for _ in range(12):
                told = last_refusal(engine, (random_position(rng, names_of(engine), 20), "win", None))
                if told is not None:
                    high = max(told[1]) > 1
                    total = 0
                    for value in told[1]:
                        total ^= value
                    self.assertEqual(total, 0 if high else 1)
                    seen[high] = True
        self.assertEqual(len(seen), 2)


class GreatTest(unittest.TestCase):
    def test_claims_of_great_heaps(self):
        rng = random.Random(487)
        games = [(First, count_winning, winning_at, lambda engine, place: engine.wins(place)), (Last, count_last, last_at, wins_last)]
        for game, count, told_at, wins in games:
            seen = {}
            for engine in game.engines(25, 488):
                house = engine.house()
                names = [rng.choice(names_of(engine)) for _ in range(rng.randint(1, 3))]
                position = [(name, rng.randint(MOST_HEAP // 2, MOST_HEAP)) for name in names]
                if rng.random() < 0.4:
                    position += position
                many = count(engine, position)
                if count_moves(house, position) == 0:
                    continue
                claims = [(position, "win", None), (position, "lose", None)]
                claims += [(position, "move", move_at(house, position, rng.randrange(count_moves(house, position)))) for _ in range(4)]
                for claim in claims:
                    told = game.refusal(engine, claim)
                    self.assertEqual(game.is_refusal(engine, claim, told), told is not None)
                    left = moved(house, position, claim[2]) if claim[1] == "move" else position
                    right = {"win": wins(engine, left), "lose": not wins(engine, left), "move": not wins(engine, left)}[claim[1]]
                    self.assertEqual(told is None, right)
                    seen[claim[1], right] = True
                    if told is not None and told[0] in ("won", "answer"):
                        if told[1] is None:
                            self.assertEqual((game, count_moves(house, left)), (Last, 0))
                        else:
                            self.assertFalse(wins(engine, moved(house, left, told[1])))
                for number in {0, many // 2, many - 1} if many else ():
                    move = told_at(engine, position, number)
                    self.assertIs(game.is_refusal(engine, (position, "lose", None), ("won", move)), True)
                    self.assertIs(game.is_refusal(engine, (position, "win", None), ("won", move)), False)
                    self.assertIsNone(game.refusal(engine, (position, "move", move)))
            self.assertEqual(len(seen), 6)

    def test_to_the_limits(self):
        began = time.monotonic()
        rng = random.Random(489)
        names = ["a", "b", "c", "d", "e", "f", "g", "h"]
        for game, book, paper in [(First, P, led_paper(PAPERS["p"], 300, 99)), (Last, R, led_paper(PAPERS["r"], 100, 95))]:
            engine = Engine(House([(name, book) for name in names]), {name: paper for name in names})
            position = [(rng.choice(names), rng.randint(1, MOST_HEAP)) for _ in range(60)]
            for claim in [(position, "win", None), (position, "lose", None)]:
                told = game.refusal(engine, claim)
                self.assertIs(game.is_refusal(engine, claim, told), told is not None)
        self.assertLess(time.monotonic() - began, 20)


class ErrorsTest(Refusals, unittest.TestCase):
    def test_in_their_order(self):
        for work, rest in [(claim_refusal, ()), (last_refusal, ()), (is_claim_refusal, (None,)), (is_last_refusal, (None,))]:
            for thing in odd_things():
                self.refuses(BadEngine, {"thing": thing}, work, thing, None, *rest)
                # The example engine has no book "p1", and of the odd things two are claims: of no heaps.
                if thing not in (([], "win", None), ([], "move", ("p", 3, [2]))):
                    self.refuses(BadClaim, {"thing": thing}, work, example_engine(), thing, *rest)

    def test_no_claims(self):
        engine = mixed_engine()
        place = [("p", 3), ("q", 3)]
        odd = [(place, "win"), (place, "win", None, None), (place, "win", ("p", 3, [2])), (place, "move", None), (place, "lost", None),
               (place, "move", ("p", 3, [2, 1])), (place, "move", ("p", 3, [1, 1, 1])), (place, "move", ("p", 0, [])),
               (place, "move", ("P", 3, [])), (place, "move", ("p", 3)), ([("n", 3)], "win", None), ([("p", 0)], "win", None),
               (place + [None], "win", None), ([("p", True)], "lose", None), ("p", "win", None), (None, "win", None),
               (place + [("z", 1)], "move", ("p", 3, [2])), (place, None, None), (place, ["win"], None)]
        for work, rest in [(claim_refusal, ()), (last_refusal, ()), (is_claim_refusal, (None,)), (is_last_refusal, (None,))]:
            for thing in odd:
                self.refuses(BadClaim, {"thing": thing}, work, engine, thing, *rest)

    def test_growing_and_not_tame(self):
        for position, kind, name in NOT_ALL_TAME:
            for claim in [(position, "win", None), [position, "lose", None], (position, "move", ("r", 1, []))]:
                self.refuses(getattr(errors, kind), {"name": name}, last_refusal, mixed_engine(), claim)
                self.refuses(getattr(errors, kind), {"name": name}, is_last_refusal, mixed_engine(), claim, None)
        # A move of what is not in the position is no move: so its book matters not.
        self.assertEqual(last_refusal(mixed_engine(), ([("r", 3)], "move", ("p", 3, [2]))), ("no move",))

    def test_things(self):
        engine = example_engine()
        for claim in [([("p", 4), ("r", 5)], "lose", None), ([("p", 7), ("r", 4)], "win", None), ([("r", 4)], "move", ("r", 4, [1])),
                      ([("r", 4)], "move", ("r", 4, [4])), ([], "win", None)]:
            for thing in odd_things() + [("won", odd) for odd in odd_things()] + [("answer", odd) for odd in odd_things()]:
                self.assertIs(is_claim_refusal(engine, claim, thing), False, (claim, thing))
            for thing in odd_things():
                rows = [[], ()] if claim[0] == [] else []
                self.assertIs(is_claim_refusal(engine, claim, ("lost", thing)), any(thing == row for row in rows))
                self.assertIs(is_claim_refusal(engine, claim, (thing,)), False)

    def test_told_and_passed_ones(self):
        engine = example_engine()
        claim = ([["r", 5], ("p", 4)], "lose", None)
        told = claim_refusal(engine, claim)
        told[1][2].append(5)
        self.assertEqual(claim, ([["r", 5], ("p", 4)], "lose", None))
        again = claim_refusal(engine, claim)
        self.assertIs(is_claim_refusal(engine, claim, again), True)
        self.assertEqual([type(part) for part in (again, again[1], again[1][2])], [tuple, tuple, list])
        lost = claim_refusal(engine, ([("p", 3), ("p", 7)], "win", None))
        lost[1].clear()
        self.assertEqual(claim_refusal(engine, ([("p", 3), ("p", 7)], "win", None)), ("lost", [2, 2]))


if __name__ == "__main__":
    unittest.main()
