"""Options of great heaps by their kinds, by a right paper: counted, told by index, the least one.

The KIND of an option is the pair (low, value): whether all its heaps have
values of 1 at most, and its own value. Of two heaps x, y that are so much
together, x at most y, only the rests by the period count where both are from
begin on: so the x of each kind come up again and again.
"""

from takeandsplit.leavings import Leavings, first_with, numbers_in
from takeandsplit.papers import told_of
from takeandsplit.places import Places, places_of


def kind_of(value, other):
    """The kind of two heaps with these values."""
    return (value <= 1 and other <= 1, value ^ other)


def kinds_with(value):
    """The list of all kinds of this value: what is low has no greater value than 1."""
    return [(True, value), (False, value)] if value <= 1 else [(False, value)]


class Row:
    """Options whose first heaps are places from bottom to top: alone, or of two heaps that are total together."""

    def __init__(self, places, bottom, top, total):
        self.places = places
        self.bottom = bottom
        self.top = top
        self.total = total
        self.ahead = places.many_to(bottom - 1)

    def many_to(self, first):
        """How many of the options have a first heap that is at most this."""
        return max(0, self.places.many_to(min(first, self.top)) - self.ahead)

    def starts(self, first):
        """Whether one of the options has this first heap."""
        return self.many_to(first) > self.many_to(first - 1)

    def option_of(self, first):
        """The option with this first heap."""
        return [first] if self.total is None else [first, self.total - first]

    def least(self):
        """The option with the least first heap, None if there is none."""
        first = self.places.first_from(self.bottom)
        return None if first is None or first > self.top else self.option_of(first)


class Choices:
    """Some of the options of a heap, in rows that are in the order of options with the same first heap."""

    def __init__(self, heap, nothing, rows):
        self.heap = heap
        self.nothing = nothing
        self.rows = rows

    def many_to(self, first):
        """How many of them have a first heap, which is at most this."""
        return sum([row.many_to(first) for row in self.rows])

    def many(self):
        """How many there are."""
        return int(self.nothing) + self.many_to(self.heap)

    def least(self):
        """The first one, None if there is none."""
        if self.nothing:
            return []
        leasts = [row.least() for row in self.rows]
        return min([option for option in leasts if option is not None], default=None)

    def option_with(self, number):
        """The one with this index."""
        if self.nothing and number == 0:
            return []
        rank = number - int(self.nothing)
        first = first_with(self, self.heap, rank)
        alike = [row for row in self.rows if row.starts(first)]
        return alike[rank - self.many_to(first - 1)].option_of(first)

    def number_of(self, option):
        """The index of one of them, an ascending list."""
        if len(option) == 0:
            return 0
        first = option[0]
        alike = [row.option_of(first) for row in self.rows if row.starts(first)]
        return int(self.nothing) + self.many_to(first - 1) + alike.index(option)


class Finder:
    """The options of whatever heaps by a book, and their values by a right paper of it, or of a book alike."""

    def __init__(self, book, paper):
        self.own_book = book
        self.own_paper = paper
        self.by_total = {}
        self.tame_faults = []

    def heap_value(self, heap):
        """The value of a heap."""
        return told_of(self.own_paper, heap)

    def leavings(self, heap):
        """All options of a heap."""
        return Leavings(self.own_book, heap)

    def placed(self, total):
        """A dict from the kinds of two heaps that are so much together to the places of the lesser one."""
        begin, period, _, told = self.own_paper
        once, again = {}, {}
        for first in range(1, min(begin - 1, total // 2) + 1):
            kind = kind_of(told[first], self.heap_value(total - first))
            once.setdefault(kind, []).append(first)
        if total >= 2 * begin:
            for rest in range(period):
                kind = kind_of(told[begin + rest], told[begin + (total - 2 * begin - rest) % period])
                again.setdefault(kind, []).append(rest)
        kinds = list(once) + [kind for kind in again if kind not in once]
        return {kind: Places(begin, period, once.get(kind, []), again.get(kind, [])) for kind in kinds}

    def placed_like(self, total):
        """The same, reckoned once for all totals that are alike."""
        begin, period, _, _ = self.own_paper
        # From twice begin on the rest tells which numbers are places, and the total alone where a row of them ends.
        least = total if total < 2 * begin else 2 * begin + (total - 2 * begin) % period
        if least not in self.by_total:
            self.by_total[least] = self.placed(least)
        return self.by_total[least]

    def choices(self, heap, kinds):
        """The options of a heap that are of one of these kinds."""
        left = self.leavings(heap)
        rows = []
        for low, value in kinds:
            if low == (value <= 1) and len(left.singles) > 0:
                places = places_of(self.own_paper, value)
                rows.extend([Row(places, bottom, top, None) for bottom, top in left.singles])
        for total in numbers_in(left.totals):
            placed = self.placed_like(total)
            rows.extend([Row(placed[kind], 1, total // 2, total) for kind in kinds if kind in placed])
        return Choices(heap, left.nothing and (True, 0) in kinds, rows)
