"""Values of heaps by the plain rule, and the first fault of told ones."""

from takeandsplit.checks import need_book, need_number
from takeandsplit.leavings import Leavings
from takeandsplit.tables import Table
from takeandsplit.things import is_numbers


def values(book, most):
    """The list of 0, for no heap, and of the values of the heaps from 1 to most."""
    need_book(book)
    need_number(most)
    table = Table(book)
    table.reckon_to(most)
    return list(table.told)


def wrong_value(book, table, heap, told):
    """What shows that the heap has not the told value, all heaps to it being reckoned."""
    for option in Leavings(book, heap).listed():
        if table.value_of(option) == told:
            return ("has", heap, option)
    return ("lacks", heap, table.told[heap])


def values_fault(book, thing):
    """What is wrong with any object as a told list of values, None if nothing is."""
    need_book(book)
    if not is_numbers(thing) or len(thing) == 0:
        return ("form",)
    if thing[0] != 0:
        return ("lacks", 0, 0)
    table = Table(book)
    for heap, told in enumerate(thing):
        table.reckon_to(heap)
        if told != table.told[heap]:
            return wrong_value(book, table, heap, told)
    return None
