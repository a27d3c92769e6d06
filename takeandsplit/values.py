"""Values of heaps by the plain rule, and the first fault of told ones."""

from takeandsplit.checks import need_book, need_number
from takeandsplit.leavings import Leavings
from takeandsplit.papers import told_of
from takeandsplit.tables import Table
from takeandsplit.things import is_numbers


def values(book, most):
    """The list of 0, for no heap, and of the values of the heaps from 1 to most."""
    need_book(book)
    need_number(most)
    table = Table(book)
    table.reckon_to(most)
    return list(table.told)


def wrong_value(book, table, heap, told):
    """What shows that the heap has not the told value, all heaps to it being reckoned."""
    for option in Leavings(book, heap).listed():
        if table.value_of(option) == told:
            return ("has", heap, option)
    return ("lacks", heap, table.told[heap])


def first_wrong(book, told_at, end):
    """What shows that the first heap below the end of which a wrong value is told has not this one, or None."""
    table = Table(book)
    for heap in range(end):
        table.reckon_to(heap)
        told = told_at(heap)
        if told != table.told[heap]:
            return wrong_value(book, table, heap, told)
    return None


def values_fault(book, thing):
    """What is wrong with any object as a told list of values, None if nothing is."""
    need_book(book)
    if not is_numbers(thing) or len(thing) == 0:
        return ("form",)
    return first_wrong(book, lambda heap: thing[heap], len(thing))


def paper_values_fault(book, paper, end):
    """The same of what a paper tells below the end, which may be far: so nothing is listed up to there."""
    return first_wrong(book, lambda heap: told_of(paper, heap), end)
