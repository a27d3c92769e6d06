"""Lines: moves one behind another, judged, and followed by an engine."""

from takeandsplit.checks import need_house, need_position
from takeandsplit.engine import need_engine
from takeandsplit.errors import BadLine, BadNumbers, NotWon
from takeandsplit.moverows import count_in_rows, move_in_rows
from takeandsplit.moves import is_move, left_behind, rows_of
from takeandsplit.things import is_row, numbers_fault
from takeandsplit.winning import least_winning


def line_fault(house, position, thing):
    """What is wrong with any object as a line of the position, None if nothing is."""
    need_house(house)
    need_position(house, position)
    if not is_row(thing):
        return ("form",)
    now = position
    for index, part in enumerate(thing):
        if not is_move(house, now, part):
            return ("move", index)
        now = left_behind(now, part)
    return None


def behind(house, position, line):
    """The position, ascending, that the line leaves."""
    if line_fault(house, position, line) is not None:
        raise BadLine(line)
    now = sorted([tuple(pair) for pair in position])
    for move in line:
        now = left_behind(now, move)
    return now


def need_numbers(thing):
    """Raises BadNumbers for what is no list of numbers."""
    index = numbers_fault(thing)
    if index is not None:
        raise BadNumbers(index)


def move_by(house, position, number):
    """The move whose index is the number's rest by how many moves there are, None where no move is left."""
    rows = rows_of(house, position)
    many = count_in_rows(rows)
    return None if many == 0 else move_in_rows(rows, number % many)


def followed(engine, position, numbers):
    """The line in which the engine moves by its least winning moves, the other one by the numbers."""
    need_engine(engine)
    value = engine.value(position)
    need_numbers(numbers)
    if value == 0:
        raise NotWon(value)
    move = least_winning(engine, position)
    line = [move]
    now = left_behind(position, move)
    for number in numbers:
        move = move_by(engine.house(), now, number)
        if move is None:
            return line
        now = left_behind(now, move)
        reply = least_winning(engine, now)
        now = left_behind(now, reply)
        line.extend([move, reply])
    return line
