"""Claims refused: that a position is won, or lost, or that a move wins, where who takes last wins, or loses."""

from takeandsplit.engine import need_engine
from takeandsplit.errors import BadClaim
from takeandsplit.lastmoves import least_last
from takeandsplit.lastwins import heap_values, loses_last, need_tame
from takeandsplit.moves import count_moves, is_move, left_behind
from takeandsplit.positiontexts import is_claim_form
from takeandsplit.things import is_numbers, is_row
from takeandsplit.winning import least_winning


def is_claim(engine, thing):
    """Whether any object is a claim with a position of the engine's house."""
    if not is_claim_form(thing):
        return False
    names = [name for name, _ in engine.house().books()]
    return all([name in names for name, _ in thing[0]])


def need_claim(engine, thing):
    """Raises BadEngine for what is no engine, BadClaim for what is no claim with a position of its house."""
    need_engine(engine)
    if not is_claim(engine, thing):
        raise BadClaim(thing)


def need_tame_claim(engine, thing):
    """The same, and raises HasGrowing or NotTame for a position that has not tame books alone."""
    need_claim(engine, thing)
    need_tame(engine, thing[0])


def loses_first(engine, position):
    """Whether who moves loses, who takes last winning."""
    return not engine.wins(position)


def values_in_order(engine, position):
    """The list of the values of the position's heaps, as its pairs ascend."""
    return heap_values(engine, sorted([tuple(pair) for pair in position]))


def refusal_by(engine, claim, loses, least):
    """What refuses the claim, by who loses and which moves win, None if it is right."""
    position, word, move = claim
    if word == "move":
        if not is_move(engine.house(), position, move):
            return ("no move",)
        left = left_behind(position, move)
        return None if loses(engine, left) else ("answer", least(engine, left))
    if word == "win":
        return ("lost", values_in_order(engine, position)) if loses(engine, position) else None
    return None if loses(engine, position) else ("won", least(engine, position))


def shows_won(engine, position, thing, loses):
    """Whether any object is a move that wins, or None for a position that is won though no move is left."""
    house = engine.house()
    if thing is None:
        return count_moves(house, position) == 0 and not loses(engine, position)
    return is_move(house, position, thing) and loses(engine, left_behind(position, thing))


def shows_lost(engine, position, thing, loses):
    """Whether any object is the list of the values of the heaps of a position that is lost."""
    if not loses(engine, position) or not is_numbers(thing):
        return False
    return list(thing) == values_in_order(engine, position)


def is_refusal_by(engine, claim, thing, loses):
    """Whether any object refuses the claim, by who loses."""
    position, word, move = claim
    if not is_row(thing):
        return False
    if word == "move" and not is_move(engine.house(), position, move):
        return list(thing) == ["no move"]
    if len(thing) != 2:
        return False
    told, shown = thing
    if word == "move":
        return told == "answer" and shows_won(engine, left_behind(position, move), shown, loses)
    if word == "win":
        return told == "lost" and shows_lost(engine, position, shown, loses)
    return told == "won" and shows_won(engine, position, shown, loses)


def claim_refusal(engine, claim):
    """What refuses the claim where who takes last wins, None if it is right."""
    need_claim(engine, claim)
    return refusal_by(engine, claim, loses_first, least_winning)


def is_claim_refusal(engine, claim, thing):
    """Whether any object refuses the claim where who takes last wins."""
    need_claim(engine, claim)
    return is_refusal_by(engine, claim, thing, loses_first)


def last_refusal(engine, claim):
    """What refuses the claim where who takes last loses, None if it is right."""
    need_tame_claim(engine, claim)
    return refusal_by(engine, claim, loses_last, least_last)


def is_last_refusal(engine, claim, thing):
    """Whether any object refuses the claim where who takes last loses."""
    need_tame_claim(engine, claim)
    return is_refusal_by(engine, claim, thing, loses_last)
