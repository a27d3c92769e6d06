"""Lines of positions and claims of which only a beginning may be known, and their texts that are read."""

from takeandsplit.slots import names_from, numbers_from, past_word
from takeandsplit.things import MOST_HEAP


def pairs_from(known):
    """Triples (name, heap, what is known behind them) for all that can stand here as `NAME HEAP`."""
    for name, behind in names_from(known):
        rest = past_word(" ", behind)
        if rest is not None:
            for heap, end in numbers_from(1, MOST_HEAP, rest):
                yield (name, heap, end)


def leavings_from(known):
    """All lists of at most two heaps that can stand here as what a move leaves, up to the line's end."""
    if past_word("none\n", known) is not None:
        yield []
    for first, behind in numbers_from(1, MOST_HEAP, known):
        if past_word("\n", behind) is not None:
            yield [first]
        rest = past_word(", ", behind)
        if rest is not None:
            for second, end in numbers_from(first, MOST_HEAP, rest):
                if past_word("\n", end) is not None:
                    yield [first, second]


def pair_beginning(known):
    """A pair whose line begins with what is known, None if there is none."""
    for name, heap, behind in pairs_from(known):
        if past_word("\n", behind) is not None:
            return (name, heap)
    return None


def move_beginning(known):
    """A move whose line in a claim begins with what is known, None if there is none."""
    rest = past_word("move ", known)
    if rest is None:
        return None
    for name, heap, behind in pairs_from(rest):
        last = past_word(" to ", behind)
        if last is not None:
            for option in leavings_from(last):
                return (name, heap, option)
    return None


class PositionForm:
    """The pairs of a position, as they are read."""

    def __init__(self):
        self.pairs = []

    def found(self, start):
        """A pair whose line begins with start."""
        return pair_beginning(start)

    def keep(self, pair):
        """Reads one more pair."""
        self.pairs.append(pair)

    def may_end(self):
        """A position's text may end behind each line."""
        return True


class ClaimForm:
    """A claim, as it is read: the pairs of its position, then what it says of it."""

    def __init__(self):
        self.pairs = []
        self.said = None

    def found(self, start):
        """Some (word, what goes with it) whose line begins with start: a pair goes with "at"."""
        if self.said is not None:
            return None
        for word in ("win", "lose"):
            if past_word(word + "\n", start) is not None:
                return (word, None)
        move = move_beginning(start)
        if move is not None:
            return ("move", move)
        pair = pair_beginning(start)
        return None if pair is None else ("at", pair)

    def keep(self, found):
        """Reads one more pair, or what the claim says."""
        if found[0] == "at":
            self.pairs.append(found[1])
        else:
            self.said = found

    def may_end(self):
        """A claim's text ends behind what it says."""
        return self.said is not None
