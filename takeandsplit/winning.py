"""Moves that win, who takes last winning: they leave a position of value 0."""

from takeandsplit.checks import need_below
from takeandsplit.engine import need_engine
from takeandsplit.finding import kinds_with
from takeandsplit.moverows import count_in_rows, move_in_rows, number_in_rows, unlike_pairs
from takeandsplit.moves import left_behind, need_move


def choices_to_zero(engine, total, name, heap):
    """The options of a heap that make 0 of a position of this value."""
    finder = engine.finder(name)
    return finder.choices(heap, kinds_with(total ^ finder.heap_value(heap)))


def winning_rows(engine, position):
    """All moves that win, in rows; raises BadEngine for what is no engine, BadPosition for what is no position."""
    need_engine(engine)
    total = engine.value(position)
    return [(name, heap, choices_to_zero(engine, total, name, heap)) for name, heap in unlike_pairs(position)]


def count_winning(engine, position):
    """How many moves win."""
    return count_in_rows(winning_rows(engine, position))


def winning_at(engine, position, number):
    """The move with this index among those that win."""
    rows = winning_rows(engine, position)
    need_below(count_in_rows(rows), number)
    return move_in_rows(rows, number)


def winning_number(engine, position, move):
    """The index of a move among those that win, None for one that does not win."""
    rows = winning_rows(engine, position)
    need_move(engine.house(), position, move)
    if engine.wins(left_behind(position, move)):
        return None
    return number_in_rows(rows, move)


def least_winning(engine, position):
    """The least move that wins, of a position of the engine's house, None if none does."""
    total = engine.value(position)
    for name, heap in unlike_pairs(position):
        option = choices_to_zero(engine, total, name, heap).least()
        if option is not None:
            return (name, heap, option)
    return None


def best_move(engine, position):
    """The least move that wins, None if none does."""
    need_engine(engine)
    return least_winning(engine, position)


def answer(engine, position, move):
    """The least move that wins of what the move leaves, None if none does."""
    need_engine(engine)
    need_move(engine.house(), position, move)
    return least_winning(engine, left_behind(position, move))
