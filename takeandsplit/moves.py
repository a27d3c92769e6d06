"""Moves of positions: shown, made, counted, and told by number."""

from takeandsplit.checks import need_below, need_house, need_position
from takeandsplit.errors import BadMove
from takeandsplit.leavings import Leavings
from takeandsplit.moverows import count_in_rows, move_in_rows, number_in_rows, unlike_pairs
from takeandsplit.options import is_option
from takeandsplit.things import is_pair, is_row


def rows_of(house, position):
    """All moves of a position, in rows."""
    return [(name, heap, Leavings(house.book(name), heap)) for name, heap in unlike_pairs(position)]


def checked_rows(house, position):
    """All moves; raises BadHouse for what is no house, BadPosition for what is no position of it."""
    need_house(house)
    need_position(house, position)
    return rows_of(house, position)


def is_move(house, position, thing):
    """Whether any object is a move of the position, the option's heaps in whatever order."""
    need_house(house)
    need_position(house, position)
    if not is_row(thing) or len(thing) != 3 or not is_pair(thing[:2]):
        return False
    name, heap, option = thing
    return (name, heap) in unlike_pairs(position) and is_option(house.book(name), heap, option)


def need_move(house, position, thing):
    """Raises BadMove for what is no move of the position."""
    if not is_move(house, position, thing):
        raise BadMove(thing)


def left_behind(position, move):
    """The position, ascending, that a move of it leaves."""
    name, heap, option = move
    pairs = [tuple(pair) for pair in position]
    pairs.remove((name, heap))
    return sorted(pairs + [(name, left) for left in option])


def moved(house, position, move):
    """The position, ascending, that the move leaves."""
    need_move(house, position, move)
    return left_behind(position, move)


def count_moves(house, position):
    """How many moves the position has."""
    return count_in_rows(checked_rows(house, position))


def move_at(house, position, number):
    """The move of the position with this index."""
    rows = checked_rows(house, position)
    need_below(count_in_rows(rows), number)
    return move_in_rows(rows, number)


def move_number(house, position, move):
    """The index of the move."""
    need_move(house, position, move)
    return number_in_rows(rows_of(house, position), move)
