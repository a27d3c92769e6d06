"""Papers judged by a finite look: right ones, the least one found, and what bars all others."""

from takeandsplit.checks import need_from_one, need_number
from takeandsplit.errors import Grows
from takeandsplit.papers import is_paper
from takeandsplit.rules import reach_of, turn_of
from takeandsplit.tables import Table
from takeandsplit.takings import grows
from takeandsplit.things import is_heap, is_integer, is_row
from takeandsplit.values import paper_values_fault


def need_no_growing(book):
    """Raises Grows for a book that grows, BadBook for what is no book."""
    if grows(book):
        raise Grows()


def end_by(reach, begin, period):
    """The last heap of the look at a paper with this begin and period, of a book with this reach."""
    return 2 * begin + 2 * period + reach - 1


def look_end(book, begin, period):
    """The last heap of the look at a paper with this begin and period."""
    need_no_growing(book)
    need_from_one(begin)
    need_from_one(period)
    return end_by(reach_of(book.rules()), begin, period)


def look_fault(book, thing):
    """What is wrong with any object as a paper that is right for all heaps, None if nothing is."""
    need_no_growing(book)
    if not is_paper(thing):
        return ("form",)
    begin, period, gain, _ = thing
    if gain != 0:
        return ("gain",)
    if period % turn_of(book.rules()) != 0:
        return ("turn",)
    return paper_values_fault(book, thing, look_end(book, begin, period) + 1)


class Looks:
    """All looks of a book that end at most at some heap."""

    def __init__(self, book, most):
        rules = book.rules()
        self.reach = reach_of(rules)
        self.turn = turn_of(rules)
        self.most = most
        self.table = Table(book)
        self.table.reckon_to(most)

    def end_of(self, begin, period):
        """The last heap of a look."""
        return end_by(self.reach, begin, period)

    def periods(self):
        """The ascending list of the periods that have a look, with the least begin at least."""
        last = (self.most - self.end_of(1, 0)) // 2
        return list(range(self.turn, last + 1, self.turn))

    def differs(self, heap, period):
        """Whether the heap, and the one so much greater, have unlike values."""
        told = self.table.told
        return told[heap] != told[heap + period]

    def barred(self, period):
        """The chain of heaps that bar begins, and the first begin which none bars, None if all that have a look are.

        A heap whose value does not come again bars all begins up to it which
        have it in their look, so the last one of a look bars most.
        """
        chain = []
        begin = 1
        while self.end_of(begin, period) <= self.most:
            heap = self.end_of(begin, period) - period
            while heap >= begin and not self.differs(heap, period):
                heap -= 1
            if heap < begin:
                return (chain, begin)
            chain.append(heap)
            begin = heap + 1
        return (chain, None)

    def is_chain(self, period, thing):
        """Whether any object is an ascending list of heaps that bar all begins which have a look."""
        if not is_row(thing) or not all([is_heap(part) for part in thing]):
            return False
        ahead = 0
        for heap in thing:
            if not ahead < heap <= self.end_of(ahead + 1, period) - period:
                return False
            if heap + period > self.most or not self.differs(heap, period):
                return False
            ahead = heap
        # An empty one bars not even the first begin, whose look ends by then.
        return self.end_of(ahead + 1, period) > self.most


def looks_to(book, most):
    """All looks of the book that end at most there."""
    need_no_growing(book)
    need_number(most)
    return Looks(book, most)


def found_paper(book, most):
    """The right paper of the least period, of these of the least begin, whose look ends at most there, or None."""
    looks = looks_to(book, most)
    for period in looks.periods():
        _, begin = looks.barred(period)
        if begin is not None:
            return (begin, period, 0, looks.table.told[:begin + period])
    return None


def no_paper(book, most):
    """A chain for each period, which bars all begins that have a look, None if there is a right paper."""
    looks = looks_to(book, most)
    chains = {}
    for period in looks.periods():
        chain, begin = looks.barred(period)
        if begin is not None:
            return None
        chains[period] = chain
    return chains


def is_no_paper(book, most, thing):
    """Whether any object is a dict from just these periods to such chains."""
    looks = looks_to(book, most)
    if not isinstance(thing, dict) or not all([is_integer(period) for period in thing]):
        return False
    if sorted(thing) != looks.periods():
        return False
    return all([looks.is_chain(period, thing[period]) for period in thing])
