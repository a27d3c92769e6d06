"""Refusals of what a function is passed and can do nothing with."""

from takeandsplit.books import Book
from takeandsplit.errors import BadBook, BadHeap, BadHouse, BadNumber, BadPosition
from takeandsplit.houses import House
from takeandsplit.things import is_heap, is_number, is_pair, is_row


def need_book(thing):
    """Raises BadBook for what is no book."""
    if not isinstance(thing, Book):
        raise BadBook(thing)


def need_house(thing):
    """Raises BadHouse for what is no house."""
    if not isinstance(thing, House):
        raise BadHouse(thing)


def need_heap(thing):
    """Raises BadHeap for what is no heap."""
    if not is_heap(thing):
        raise BadHeap(thing)


def need_number(thing):
    """Raises BadNumber for what is no number."""
    if not is_number(thing):
        raise BadNumber(thing)


def need_from_one(thing):
    """Raises BadNumber for what is no number from 1 on."""
    if not is_number(thing) or thing == 0:
        raise BadNumber(thing)


def need_position(house, thing):
    """Raises BadPosition for what is no position of the house."""
    if not is_row(thing):
        raise BadPosition(0)
    names = [name for name, _ in house.books()]
    for index, part in enumerate(thing):
        if not is_pair(part) or part[0] not in names:
            raise BadPosition(index)


def need_below(many, thing):
    """Raises BadNumber for what is no number below this one."""
    if not is_number(thing) or thing >= many:
        raise BadNumber(thing)
