"""Plays where who takes last loses: followed by an engine, and gone through where the words on values may fail."""

from takeandsplit.checks import need_below, need_book
from takeandsplit.errors import LostHere
from takeandsplit.lastmoves import least_last
from takeandsplit.lastwins import is_lost, loses_last, need_tame
from takeandsplit.leavings import Leavings
from takeandsplit.lines import move_by, need_numbers
from takeandsplit.moves import left_behind
from takeandsplit.plays import steps_from
from takeandsplit.tables import Table

MOST_GONE_THROUGH = 14


def followed_last(engine, position, numbers):
    """The line in which the engine moves by its least moves that win here, the other one by the numbers."""
    need_tame(engine, position)
    if loses_last(engine, position):
        raise LostHere()
    need_numbers(numbers)
    move = least_last(engine, position)
    if move is None:
        return []
    line = [move]
    now = left_behind(position, move)
    for number in numbers:
        # Who has no move has won: so who is to lose always has one.
        other = move_by(engine.house(), now, number)
        now = left_behind(now, other)
        line.append(other)
        move = least_last(engine, now)
        if move is None:
            return line
        now = left_behind(now, move)
        line.append(move)
    return line


def rows_with_sum(total, least):
    """All ascending lists of heaps from this least one on with this sum, themselves ascending, as tuples."""
    if total == 0:
        return [()]
    return [
        (first,) + rest
        for first in range(least, total + 1) for rest in rows_with_sum(total - first, first)
    ]


def first_off(book, most):
    """The first list of heaps, by the sum to most, of which values tell another winner than all plays, or None."""
    need_book(book)
    need_below(MOST_GONE_THROUGH + 1, most)
    listed = {heap: Leavings(book, heap).listed() for heap in range(1, most + 1)}
    table = Table(book)
    table.reckon_to(most)
    lost = {}
    for total in range(most + 1):
        rows = rows_with_sum(total, 1)
        # A move leaves less, or as much in more heaps.
        for heaps in sorted(rows, key=lambda heaps: -len(heaps)):
            after = [lost[left] for _, _, left in steps_from(heaps, listed)]
            lost[heaps] = len(after) > 0 and not any(after)
        for heaps in rows:
            if lost[heaps] != is_lost([table.told[heap] for heap in heaps]):
                return list(heaps)
    return None
