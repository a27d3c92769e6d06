"""Values of heaps refused: by an option that has the told one, or by a number that no option has."""

from takeandsplit.checks import need_heap, need_number
from takeandsplit.finding import Finder, kinds_with
from takeandsplit.judging import need_right
from takeandsplit.options import is_option
from takeandsplit.tables import sum_of
from takeandsplit.things import is_number, is_row


def checked_finder(book, paper, heap, number):
    """What tells of the book's heaps; raises BadBook, NotRight, BadHeap or BadNumber for what is not right."""
    need_right(book, paper)
    need_heap(heap)
    need_number(number)
    return Finder(book, paper)


def value_refusal(book, paper, heap, number):
    """What shows that the heap has not this number as its value, None if it has."""
    finder = checked_finder(book, paper, heap, number)
    value = finder.heap_value(heap)
    if number < value:
        return ("has", finder.choices(heap, kinds_with(number)).least())
    return None if number == value else ("lacks", value)


def is_value_refusal(book, paper, heap, number, thing):
    """Whether any object shows that the heap has not this number as its value."""
    finder = checked_finder(book, paper, heap, number)
    if not is_row(thing) or len(thing) != 2:
        return False
    word, shown = thing
    if word == "has":
        return is_option(book, heap, shown) and sum_of([finder.heap_value(left) for left in shown]) == number
    return word == "lacks" and is_number(shown) and shown == finder.heap_value(heap) < number
