"""Positions of small heaps reckoned by the plain rule, without papers: values, and moves that win."""

from takeandsplit.leavings import Leavings
from takeandsplit.moverows import unlike_pairs
from takeandsplit.moves import left_behind
from takeandsplit.tables import Table, sum_of


class Reckoner:
    """Values of heaps, and options by their values, under the names of a house, kept once they are reckoned."""

    def __init__(self, house):
        self.own_house = house
        self.tables = {}
        self.by_values = {}

    def table_to(self, name, heap):
        """The table of a name, reckoned to the heap."""
        if name not in self.tables:
            self.tables[name] = Table(self.own_house.book(name))
        self.tables[name].reckon_to(heap)
        return self.tables[name]

    def heap_value(self, name, heap):
        """The value of a heap."""
        return self.table_to(name, heap).told[heap]

    def worth_of(self, pairs):
        """The sum without carry of the values of all heaps."""
        return sum_of([self.heap_value(name, heap) for name, heap in pairs])

    def options_of(self, name, heap):
        """The ascending list of a heap's options."""
        return Leavings(self.own_house.book(name), heap).listed()

    def options_by_value(self, name, heap):
        """A dict from values to the ascending lists of a heap's options that have them."""
        if (name, heap) not in self.by_values:
            table = self.table_to(name, heap)
            found = {}
            for option in self.options_of(name, heap):
                found.setdefault(table.value_of(option), []).append(option)
            self.by_values[(name, heap)] = found
        return self.by_values[(name, heap)]

    def winning_rows(self, pairs):
        """Triples (name, heap, options that leave a position of value 0) of the unlike pairs, ascending."""
        total = self.worth_of(pairs)
        rows = []
        for name, heap in unlike_pairs(pairs):
            wanted = total ^ self.heap_value(name, heap)
            rows.append((name, heap, self.options_by_value(name, heap).get(wanted, [])))
        return rows

    def first_winning(self, pairs):
        """The first move that wins, None if none does."""
        for name, heap, some in self.winning_rows(pairs):
            if len(some) > 0:
                return (name, heap, list(some[0]))
        return None

    def replies(self, pairs):
        """The list of the pairs of each move, ascending, and the first one that wins of what it leaves."""
        moves = [(name, heap, option) for name, heap in unlike_pairs(pairs) for option in self.options_of(name, heap)]
        return [(move, self.first_winning(left_behind(pairs, move))) for move in moves]
