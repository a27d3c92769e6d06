"""Positions of several heaps and what they are worth."""

from takeandsplit.checks import need_house, need_position
from takeandsplit.values import values


def worth(house, position):
    """The sum without carry of the values of the position's heaps, each by its book."""
    need_house(house)
    need_position(house, position)
    total = 0
    for name, book in house.books():
        heaps = [heap for known, heap in position if known == name]
        told = values(book, max(heaps, default=0))
        for heap in heaps:
            total = total ^ told[heap]
    return total
