"""How long small positions last, where who can win does so soon, and the other one holds out."""

from takeandsplit.searching import plays_of


def turns_told(plays):
    """The list of the turns of all positions of the plays: those of lost ones are even."""
    told = []
    for number in range(plays.size):
        after = [told[left] for left in plays.left_by(number)]
        lost = [many for many in after if many % 2 == 0]
        if len(lost) > 0:
            told.append(min(lost) + 1)
        else:
            told.append(max(after, default=-1) + 1)
    return told


def turns(house, position):
    """How many moves are made where who can win wins as soon as they can, and the other one loses as late."""
    return turns_told(plays_of(house, position))[-1]


def turns_line(house, position):
    """A line of so many moves."""
    plays = plays_of(house, position)
    told = turns_told(plays)
    number = plays.size - 1
    line = []
    while told[number] > 0:
        # One turn less is even behind a won position, odd behind a lost one: so such a move is right for either.
        number, move = next_move(plays, told, number)
        line.append(move)
    return line


def next_move(plays, told, number):
    """The first move, with the number of what it leaves, to a position with one turn less."""
    for left, move in plays.moves_of(number):
        if told[left] == told[number] - 1:
            return (left, move)
    return None
