"""All positions that come up in the plays of a small one, in such an order that what moves leave stands ahead.

Moves of heaps under one name change nothing under another one: so what comes
up under each name is listed for itself, and a position is one of each.
"""

from takeandsplit.leavings import Leavings


def without_one(heaps, heap):
    """The list of the heaps, one such heap less."""
    rest = list(heaps)
    rest.remove(heap)
    return rest


def steps_from(heaps, listed):
    """The list of triples (heap, option, heaps left) of all moves, by the options that are listed of each heap."""
    steps = []
    for heap in sorted(set(heaps)):
        rest = without_one(heaps, heap)
        for option in listed[heap]:
            steps.append((heap, option, tuple(sorted(rest + option))))
    return steps


def steps_under(book, start):
    """A dict from the heaps, ascending, that come up in plays by the book to the steps from them."""
    listed = {heap: Leavings(book, heap).listed() for heap in range(1, max(start, default=0) + 1)}
    found = {}
    waiting = [tuple(sorted(start))]
    while len(waiting) > 0:
        heaps = waiting.pop()
        if heaps not in found:
            found[heaps] = steps_from(heaps, listed)
            waiting.extend([left for _, _, left in found[heaps]])
    return found


class NamePlays:
    """What comes up under one name, told by number; the last one is where it starts."""

    def __init__(self, name, book, start):
        found = steps_under(book, start)
        # A move leaves less, or as much in more heaps: so it leaves what stands ahead.
        ordered = sorted(found, key=lambda heaps: (sum(heaps), -len(heaps)))
        numbers = {heaps: number for number, heaps in enumerate(ordered)}
        self.own_name = name
        self.size = len(ordered)
        self.moves = [[(numbers[left], heap, option) for heap, option, left in found[heaps]] for heaps in ordered]
        self.nexts = [sorted({left for left, _, _ in row}) for row in self.moves]


class Plays:
    """The positions that come up in all plays of a position, told by number; the last one is the position itself."""

    def __init__(self, house, position):
        self.sides = []
        self.size = 1
        for name in sorted({pair[0] for pair in position}):
            part = NamePlays(name, house.book(name), [heap for known, heap in position if known == name])
            self.sides.append(part)
            self.size *= part.size

    def places_in(self, number):
        """The list of triples (part, number in it, weight) that make up a position's number."""
        places = []
        weight = 1
        for part in self.sides:
            places.append((part, number // weight % part.size, weight))
            weight *= part.size
        return places

    def left_by(self, number):
        """The list of the numbers of what moves leave of a position, all below its own."""
        return [
            number + (left - at) * weight
            for part, at, weight in self.places_in(number) for left in part.nexts[at]
        ]

    def moves_of(self, number):
        """The list of pairs (number of what is left, move) of all moves of a position."""
        return [
            (number + (left - at) * weight, (part.own_name, heap, list(option)))
            for part, at, weight in self.places_in(number) for left, heap, option in part.moves[at]
        ]
