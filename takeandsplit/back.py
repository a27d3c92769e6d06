"""Options told back: the heaps that have one, and those that have none."""

from takeandsplit.checks import need_book, need_number
from takeandsplit.errors import BadOption
from takeandsplit.leavings import Leavings
from takeandsplit.things import is_leaving


def heaps_from(book, option, most):
    """The ascending list of the heaps, to most, that have this option."""
    need_book(book)
    if not is_leaving(option):
        raise BadOption(option)
    need_number(most)
    return [heap for heap in range(1, most + 1) if Leavings(book, heap).has(option)]


def ends(book, most):
    """The ascending list of the heaps, to most, that have no option."""
    need_book(book)
    need_number(most)
    return [heap for heap in range(1, most + 1) if Leavings(book, heap).many() == 0]
