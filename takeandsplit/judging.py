"""Papers judged for a book of whatever kind."""

from takeandsplit.errors import NotRight
from takeandsplit.growing import growing_fault
from takeandsplit.looks import look_fault
from takeandsplit.takings import grows


def judged_fault(book, thing):
    """What is wrong with any object as a paper that is right for the book, None if nothing is."""
    return growing_fault(book, thing) if grows(book) else look_fault(book, thing)


def is_right(book, thing):
    """Whether any object is a paper that is judged right for the book."""
    return judged_fault(book, thing) is None


def need_right(book, thing):
    """Raises NotRight for what is no right paper for the book, BadBook for what is no book."""
    if not is_right(book, thing):
        raise NotRight(thing)
