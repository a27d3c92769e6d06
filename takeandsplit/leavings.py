"""What the rules of a book leave of a heap, in spans: rows of numbers one behind another.

A heap may be as great as 10 ** 18: so spans alone are gone through, and what
is left in two heaps is counted by what both are together.
"""


def span_left(rule, heap, least):
    """The span (least, most) of what the rule leaves of the heap together, from this least on, None if nothing is."""
    low, high, _, rest, modulus = rule
    bottom = least if high is None else max(least, heap - high)
    if heap % modulus != rest or bottom > heap - low:
        return None
    return (bottom, heap - low)


def spans_left(rules, heap, left, least):
    """The spans, apart from one another and ascending, that the rules which leave so many heaps leave together."""
    found = [span_left(rule, heap, least) for rule in rules if rule[2] == left]
    merged = []
    for bottom, top in sorted([span for span in found if span is not None]):
        if len(merged) > 0 and bottom <= merged[-1][1]:
            merged[-1] = (merged[-1][0], max(top, merged[-1][1]))
        else:
            merged.append((bottom, top))
    return merged


def leaves_none(rules, heap):
    """Whether some rule lets the whole heap be taken with nothing left."""
    spans = spans_left(rules, heap, "none", 0)
    return len(spans) > 0 and spans[0][0] == 0


def numbers_in(spans):
    """The ascending list of all numbers in the spans."""
    return [number for bottom, top in spans for number in range(bottom, top + 1)]


def count_in(spans, low, high):
    """How many numbers from low to high are in the spans."""
    return sum([max(0, min(top, high) - max(bottom, low) + 1) for bottom, top in spans])


def number_in(spans, low, index):
    """The number in the spans, from low on, that has this index."""
    left = index
    for bottom, top in spans:
        start = max(bottom, low)
        if left <= top - start:
            return start + left
        left -= max(0, top - start + 1)
    return None


def pairs_to(first, total):
    """How many pairs [a, b], a at most b and at most first, are together at most total.

    Of a total t there are t // 2, as long as this is not above first.
    """
    whole = min(total, 2 * first + 1)
    return whole * whole // 4 + first * (total - whole)


def first_with(choices, most, rank):
    """The least number, to most, such that more than so many of the choices have a first heap up to it."""
    short, first = 0, most
    while first - short > 1:
        middle = (short + first) // 2
        if choices.many_to(middle) > rank:
            first = middle
        else:
            short = middle
    return first


class Leavings:
    """All options of one heap by one book, ascending as lists compare."""

    def __init__(self, book, heap):
        rules = book.rules()
        self.heap = heap
        self.nothing = leaves_none(rules, heap)
        self.singles = spans_left(rules, heap, "one", 1)
        self.totals = spans_left(rules, heap, "two", 2)

    def listed(self):
        """The list of all options."""
        ends = [[]] if self.nothing else []
        singles = [[number] for number in numbers_in(self.singles)]
        pairs = [[first, total - first] for total in numbers_in(self.totals) for first in range(1, total // 2 + 1)]
        return ends + sorted(singles + pairs)

    def has(self, option):
        """Whether an ascending list of at most two heaps is one of the options."""
        if len(option) == 0:
            return self.nothing
        total = sum(option)
        spans = self.singles if len(option) == 1 else self.totals
        return count_in(spans, total, total) == 1

    def many_to(self, first):
        """How many options have a first heap, which is at most this."""
        pairs = sum([pairs_to(first, top) - pairs_to(first, bottom - 1) for bottom, top in self.totals])
        return count_in(self.singles, 1, first) + pairs

    def many(self):
        """How many options there are."""
        return int(self.nothing) + self.many_to(self.heap)

    def option_with(self, number):
        """The option with this index."""
        if self.nothing and number == 0:
            return []
        rank = number - int(self.nothing)
        first = first_with(self, self.heap, rank)
        rank -= self.many_to(first - 1)
        alone = count_in(self.singles, first, first)
        if rank < alone:
            return [first]
        return [first, number_in(self.totals, 2 * first, rank - alone) - first]

    def number_of(self, option):
        """The index of an option, an ascending list."""
        if len(option) == 0:
            return 0
        first = option[0]
        ahead = int(self.nothing) + self.many_to(first - 1)
        if len(option) == 1:
            return ahead
        pairs = count_in(self.totals, 2 * first, sum(option) - 1)
        return ahead + count_in(self.singles, first, first) + pairs
