"""Papers of books that take alone, found by a window that comes again, and judged by a short look."""

from math import lcm

from takeandsplit.checks import need_from_one
from takeandsplit.papers import is_paper
from takeandsplit.rules import reach_of, turn_of
from takeandsplit.tables import Table
from takeandsplit.takings import last_values, need_alone
from takeandsplit.values import paper_values_fault


def alone_paper(book, most):
    """The paper by the least heap, to most, whose window is that of one ahead, None if there is none."""
    need_alone(book)
    need_from_one(most)
    rules = book.rules()
    reach, turn = reach_of(rules), turn_of(rules)
    table = Table(book)
    seen = {}
    for heap in range(reach + 1, most + 1):
        table.reckon_to(heap - 1)
        window = (heap % turn, tuple(last_values(table.told, heap, reach)))
        if window in seen:
            ahead = seen[window]
            return (ahead - reach, heap - ahead, 0, table.told[:heap - reach])
        seen[window] = heap
    return None


def alone_fault(book, thing):
    """What is wrong with any object as a paper of values that are right for all heaps, None if nothing is."""
    need_alone(book)
    if not is_paper(thing):
        return ("form",)
    begin, period, gain, _ = thing
    if gain != 0:
        return ("gain",)
    rules = book.rules()
    end = begin + lcm(period, turn_of(rules)) + reach_of(rules)
    return paper_values_fault(book, thing, end)
