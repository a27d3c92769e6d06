"""Options of heaps: listed, shown by what is taken, counted, and told by number."""

from takeandsplit.checks import need_below, need_book, need_heap
from takeandsplit.errors import BadOption
from takeandsplit.leavings import Leavings
from takeandsplit.rules import rule_takes
from takeandsplit.things import is_heaps


def leavings_of(book, heap):
    """All options of the heap; raises BadBook for what is no book, BadHeap for what is no heap."""
    need_book(book)
    need_heap(heap)
    return Leavings(book, heap)


def options(book, heap):
    """The ascending list of all options of the heap."""
    return leavings_of(book, heap).listed()


def is_option(book, heap, thing):
    """Whether any object is a list of the heaps of an option, in whatever order."""
    left = leavings_of(book, heap)
    return is_heaps(thing) and left.has(sorted(thing))


def need_option(book, heap, thing):
    """Raises BadOption for what is no option of the heap."""
    if not is_option(book, heap, thing):
        raise BadOption(thing)


def ways_to(book, heap, option):
    """The list of the pairs of a rule of the book and what is taken by which the option is left."""
    need_option(book, heap, option)
    taken = heap - sum(option)
    return [(rule, taken) for rule in book.rules() if rule_takes(rule, heap, taken, len(option))]


def count_options(book, heap):
    """How many options the heap has."""
    return leavings_of(book, heap).many()


def option_at(book, heap, number):
    """The option of the heap with this index."""
    left = leavings_of(book, heap)
    need_below(left.many(), number)
    return left.option_with(number)


def option_number(book, heap, option):
    """The index of the option of the heap."""
    need_option(book, heap, option)
    return leavings_of(book, heap).number_of(sorted(option))
