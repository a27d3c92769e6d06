"""Moves that win where who takes last loses: they leave a position in which who moves loses."""

from takeandsplit.checks import need_below
from takeandsplit.finding import kinds_with
from takeandsplit.lastwins import heap_values, loses_last, need_tame
from takeandsplit.moverows import count_in_rows, least_in_rows, move_in_rows, number_in_rows, unlike_pairs
from takeandsplit.moves import left_behind, need_move
from takeandsplit.tables import sum_of


def losing_kinds(rest, has_high):
    """The kinds of options that make a lost position of heaps of this value, one of them perhaps above 1 by itself."""
    return kinds_with(rest) if has_high else [(True, 1 - rest), (False, rest)]


def rows_to_win(engine, position):
    """All moves that win, in rows, of a position of tame books."""
    told = heap_values(engine, position)
    total = sum_of(told)
    highs = len([value for value in told if value > 1])
    rows = []
    for name, heap in unlike_pairs(position):
        finder = engine.finder(name)
        value = finder.heap_value(heap)
        kinds = losing_kinds(total ^ value, highs > int(value > 1))
        rows.append((name, heap, finder.choices(heap, kinds)))
    return rows


def last_rows(engine, position):
    """The same; raises what is to be raised for other positions."""
    need_tame(engine, position)
    return rows_to_win(engine, position)


def least_last(engine, position):
    """The least move that wins, of a position of tame books, None if none does."""
    return least_in_rows(rows_to_win(engine, position))


def count_last(engine, position):
    """How many moves win."""
    return count_in_rows(last_rows(engine, position))


def last_at(engine, position, number):
    """The move with this index among those that win."""
    rows = last_rows(engine, position)
    need_below(count_in_rows(rows), number)
    return move_in_rows(rows, number)


def last_number(engine, position, move):
    """The index of a move among those that win, None for one that does not win."""
    rows = last_rows(engine, position)
    need_move(engine.house(), position, move)
    if not loses_last(engine, left_behind(position, move)):
        return None
    return number_in_rows(rows, move)


def best_last(engine, position):
    """The least move that wins, None if none does."""
    return least_in_rows(last_rows(engine, position))
