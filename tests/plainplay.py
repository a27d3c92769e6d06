"""Plays of positions by going through them, as plainly as can be, and what tests of refusals share."""

from tests.samples import MOST_HEAP, plain_options


def plain_moves(house, position):
    """The ascending list of all moves of a position."""
    found = []
    for name, heap in sorted({(name, heap) for name, heap in position}):
        found += [(name, heap, option) for option in plain_options(house.book(name).rules(), heap)]
    return found


def plain_behind(position, move):
    """The ascending list of the pairs that a move leaves."""
    name, heap, option = move
    rest = [tuple(pair) for pair in position]
    rest.remove((name, heap))
    return sorted(rest + [(name, left) for left in option])


class PlainPlays:
    """All plays of positions of a house, kept by positions."""

    def __init__(self, house):
        self.house = house
        self.kept = {}

    def under(self, position):
        """(wins, survives, longest, shortest, turns) of a position."""
        key = tuple(sorted(tuple(pair) for pair in position))
        if key not in self.kept:
            after = [self.under(plain_behind(key, move)) for move in plain_moves(self.house, key)]
            wins = any(not row[0] for row in after)
            survives = not after or any(not row[1] for row in after)
            longest = max((row[2] + 1 for row in after), default=0)
            shortest = min((row[3] + 1 for row in after), default=0)
            if wins:
                turns = 1 + min(row[4] for row in after if not row[0])
            else:
                turns = max((row[4] + 1 for row in after), default=0)
            self.kept[key] = (wins, survives, longest, shortest, turns)
        return self.kept[key]

    def positions_under(self, position):
        """The set of all positions that come up, the position itself among them."""
        found, waiting = set(), [tuple(sorted(tuple(pair) for pair in position))]
        while waiting:
            key = waiting.pop()
            if key not in found:
                found.add(key)
                waiting += [tuple(plain_behind(key, move)) for move in plain_moves(self.house, key)]
        return found


def random_position(rng, names, most, heaps=None):
    """A position in no order, its heaps together at most so much, and perhaps just so many."""
    position, left = [], most
    while left > 0 and (heaps is None or len(position) < heaps):
        heap = rng.randint(1, left)
        position.append((rng.choice(names), heap))
        left -= heap
        if heaps is None and rng.random() < 0.2:
            break
    rng.shuffle(position)
    return position


def no_heaps(things):
    """Those of the things that are no heaps."""
    return [thing for thing in things if type(thing) is not int or not 1 <= thing <= MOST_HEAP]


def no_numbers(things, least=0):
    """Those of the things that are no integers from least on."""
    return [thing for thing in things if type(thing) is not int or thing < least]


class Refusals:
    """What a test of refusals asks for, beside unittest.TestCase."""

    def refuses(self, error, kept, work, *things):
        """The call raises just this error with these very objects (names are as good as like ones)."""
        with self.assertRaises(error) as caught:
            work(*things)
        self.assertIs(type(caught.exception), error)
        for name, thing in kept.items():
            if name == "name":
                self.assertEqual(caught.exception.name, thing)
            else:
                self.assertIs(getattr(caught.exception, name), thing)
