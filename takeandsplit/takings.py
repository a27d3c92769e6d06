"""Books that take alone, books that grow, and the windows by which values go on."""

from takeandsplit.checks import need_book
from takeandsplit.errors import BadHeap, BadWindow, NotAlone
from takeandsplit.rules import is_growing, is_splitting, reach_of, turn_of
from takeandsplit.tables import Table, least_missing
from takeandsplit.things import is_heap, is_number, is_numbers, is_row


def grows(book):
    """Whether the book has a growing rule."""
    need_book(book)
    return any([is_growing(rule) for rule in book.rules()])


def takes_alone(book):
    """Whether the book has no rule that grows, and none that leaves two heaps."""
    need_book(book)
    return not any([is_growing(rule) or is_splitting(rule) for rule in book.rules()])


def need_alone(book):
    """Raises NotAlone for a book that does not take alone, BadBook for what is no book."""
    if not takes_alone(book):
        raise NotAlone()


def need_heap_above(most, thing):
    """Raises BadHeap for what is no heap above this number."""
    if not is_heap(thing) or thing <= most:
        raise BadHeap(thing)


def last_values(told, heap, many):
    """The list of the values of so many heaps below the heap, the nearest one first."""
    return [told[heap - taken] for taken in range(1, many + 1)]


def window_at(book, heap):
    """The window of a heap above all numbers of the book's rules: its rest, and the values of the heaps below it."""
    need_alone(book)
    rules = book.rules()
    reach = reach_of(rules)
    need_heap_above(reach, heap)
    table = Table(book)
    table.reckon_to(heap - 1)
    return (heap % turn_of(rules), last_values(table.told, heap, reach))


def is_window(rules, thing):
    """Whether it is a pair of a rest and a list of as many numbers as a window of the rules has."""
    if not is_row(thing) or len(thing) != 2:
        return False
    rest, last = thing
    return is_number(rest) and rest < turn_of(rules) and is_numbers(last) and len(last) == reach_of(rules)


def value_by(book, window):
    """The value of a heap with this window."""
    need_alone(book)
    rules = book.rules()
    if not is_window(rules, window):
        raise BadWindow(window)
    rest, last = window
    left = {}
    for low, high, what, over, modulus in rules:
        if what == "one" and rest % modulus == over:
            for taken in range(low, high + 1):
                left[last[taken - 1]] = True
    return least_missing(left)


def bound_of(book):
    """A number by which some window has come again."""
    need_alone(book)
    rules = book.rules()
    reach = reach_of(rules)
    many = len({taken for rule in rules if rule[2] == "one" for taken in range(rule[0], rule[1] + 1)})
    windows = turn_of(rules)
    for _ in range(reach):
        windows *= many + 1
    return 2 * reach + 1 + windows
