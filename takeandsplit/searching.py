"""Small positions, by going through all plays, without values."""

from takeandsplit.checks import need_house, need_position
from takeandsplit.plays import Plays


def plays_of(house, position):
    """All plays of the position; raises BadHouse for what is no house, BadPosition for what is no position of it."""
    need_house(house)
    need_position(house, position)
    return Plays(house, position)


def wins_small(house, position):
    """Whether who moves can take last, whatever the other one does."""
    plays = plays_of(house, position)
    told = []
    for number in range(plays.size):
        told.append(not all([told[left] for left in plays.left_by(number)]))
    return told[-1]


def survives_small(house, position):
    """Whether who moves can make the other one take last, which holds where no move is left."""
    plays = plays_of(house, position)
    told = []
    for number in range(plays.size):
        after = [told[left] for left in plays.left_by(number)]
        told.append(len(after) == 0 or not all(after))
    return told[-1]


def longest(house, position):
    """How many moves the longest play has."""
    plays = plays_of(house, position)
    told = []
    for number in range(plays.size):
        told.append(max([told[left] + 1 for left in plays.left_by(number)], default=0))
    return told[-1]


def shortest(house, position):
    """How many moves the shortest play has, by whatever moves of both."""
    plays = plays_of(house, position)
    told = []
    for number in range(plays.size):
        told.append(min([told[left] + 1 for left in plays.left_by(number)], default=0))
    return told[-1]


def count_under(house, position):
    """How many unlike positions come up in all plays, the position itself among them."""
    return plays_of(house, position).size
