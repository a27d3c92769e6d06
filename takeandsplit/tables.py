"""Tables of values by the plain rule, built up heap by heap."""

from takeandsplit.leavings import leaves_none, numbers_in, spans_left


def least_missing(seen):
    """The least number that is none of these."""
    number = 0
    while number in seen:
        number += 1
    return number


class Table:
    """The values of 0, 1, 2, .. by one book, as far as they are reckoned."""

    def __init__(self, book):
        self.book_rules = book.rules()
        self.told = [0]
        self.by_total = {}

    def split_values(self, total):
        """The list of the unlike values of two heaps that are so much together."""
        if total not in self.by_total:
            told = self.told
            seen = {told[first] ^ told[total - first]: True for first in range(1, total // 2 + 1)}
            self.by_total[total] = list(seen)
        return self.by_total[total]

    def option_values(self, heap):
        """A dict of True for the values of the heap's options; all heaps below it are reckoned."""
        rules = self.book_rules
        seen = {self.told[left]: True for left in numbers_in(spans_left(rules, heap, "one", 1))}
        if leaves_none(rules, heap):
            seen[0] = True
        for total in numbers_in(spans_left(rules, heap, "two", 2)):
            for value in self.split_values(total):
                seen[value] = True
        return seen

    def reckon(self):
        """Reckons one more heap, and tells its value."""
        value = least_missing(self.option_values(len(self.told)))
        self.told.append(value)
        return value

    def reckon_to(self, most):
        """Reckons all heaps to most."""
        while len(self.told) <= most:
            self.reckon()

    def value_of(self, option):
        """The value of an option of heaps that are reckoned."""
        value = 0
        for heap in option:
            value = value ^ self.told[heap]
        return value
