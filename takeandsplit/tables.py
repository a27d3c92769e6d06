"""Tables of values by the plain rule, built up heap by heap."""

from takeandsplit.leavings import leaves_none, numbers_in, spans_left
from takeandsplit.rules import is_growing


def least_missing(seen):
    """The least number that is none of these."""
    number = 0
    while number in seen:
        number += 1
    return number


def sum_of(told):
    """The sum without carry of a list of values."""
    total = 0
    for value in told:
        total = total ^ value
    return total


class Table:
    """The values of 0, 1, 2, .. by one book, as far as they are reckoned.

    What growing rules leave of a heap they leave of all greater ones, too: so
    its values are kept from heap to heap (`grown`, and `base`, the least
    number that is none of them), as they are of the last heap that is reckoned.
    """

    def __init__(self, book):
        rules = book.rules()
        self.growing_rules = [rule for rule in rules if is_growing(rule)]
        self.other_rules = [rule for rule in rules if not is_growing(rule)]
        self.told = [0]
        self.by_total = {}
        self.grown = {}
        self.base = 0

    def split_values(self, total):
        """The list of the unlike values of two heaps that are so much together."""
        if total not in self.by_total:
            told = self.told
            seen = {told[first] ^ told[total - first]: True for first in range(1, total // 2 + 1)}
            self.by_total[total] = list(seen)
        return self.by_total[total]

    def grow_to(self, heap):
        """Keeps the values of what growing rules leave of the heap, and did not leave of the one ahead."""
        for low, _, left, _, _ in self.growing_rules:
            if left == "none" and heap >= low:
                self.grown[0] = True
            if left == "one" and heap > low:
                self.grown[self.told[heap - low]] = True
        while self.base in self.grown:
            self.base += 1

    def other_values(self, heap):
        """A dict of True for the values of what other rules leave of the heap; all heaps below it are reckoned."""
        rules = self.other_rules
        seen = {self.told[left]: True for left in numbers_in(spans_left(rules, heap, "one", 1))}
        if leaves_none(rules, heap):
            seen[0] = True
        for total in numbers_in(spans_left(rules, heap, "two", 2)):
            for value in self.split_values(total):
                seen[value] = True
        return seen

    def reckon(self):
        """Reckons one more heap."""
        heap = len(self.told)
        self.grow_to(heap)
        seen = self.other_values(heap)
        value = self.base
        while value in self.grown or value in seen:
            value += 1
        self.told.append(value)

    def reckon_to(self, most):
        """Reckons all heaps to most."""
        while len(self.told) <= most:
            self.reckon()

    def value_of(self, option):
        """The value of an option of heaps that are reckoned."""
        return sum_of([self.told[heap] for heap in option])
