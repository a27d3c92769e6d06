"""Small books told back from values of their heaps."""

from itertools import combinations

from takeandsplit.books import Book
from takeandsplit.checks import need_below
from takeandsplit.errors import BadValues
from takeandsplit.leavings import Leavings
from takeandsplit.rules import LEFTS
from takeandsplit.tables import sum_of
from takeandsplit.things import numbers_fault

MOST_SMALL = 3


def small_rules():
    """The ascending list of the small rules."""
    rules = [(number, number, left, 0, 1) for number in range(1, MOST_SMALL + 1) for left in LEFTS]
    return [(0, 0, "two", 0, 1)] + rules


def small_rows():
    """The list of the rows of rules of all small books, in their order."""
    rules = small_rules()
    return [row for many in range(len(rules) + 1) for row in combinations(rules, many)]


def small_book(number):
    """The small book with this index."""
    rows = small_rows()
    need_below(len(rows), number)
    return Book(rows[number])


def need_values(thing):
    """Raises BadValues for what is no list of numbers."""
    index = numbers_fault(thing)
    if index is not None:
        raise BadValues(index)


def rules_by_value(told, heap):
    """A dict from the values that are left of the heap to dicts of True for the small rules that leave them."""
    by_value = {}
    for rule in small_rules():
        for option in Leavings(Book([rule]), heap).listed():
            by_value.setdefault(sum_of([told[part] for part in option]), {})[rule] = True
    return by_value


def has_any(row, leaving):
    """Whether one of the rules is among those that leave a value."""
    return any([rule in leaving for rule in row])


def rows_with_value(rows, by_value, value):
    """Those of the rows whose rules leave all lesser values, and not this one."""
    # More values than are left at all do not come up: so a value as great as whatever one likes is looked at soon.
    lesser = [by_value.get(number, {}) for number in range(min(value, len(by_value) + 1))]
    own = by_value.get(value, {})
    return [row for row in rows if not has_any(row, own) and all([has_any(row, leaving) for leaving in lesser])]


def fitting_rows(values):
    """The list of the lists of rows that fit the first none, the first one, two, .. of the values, to all."""
    need_values(values)
    told = [0] + list(values)
    fitting = [small_rows()]
    for heap in range(1, len(told)):
        rows = fitting[-1]
        if len(rows) > 0:
            rows = rows_with_value(rows, rules_by_value(told, heap), told[heap])
        fitting.append(rows)
    return fitting


def book_for(values):
    """The first small book whose heaps have these values, None if there is none."""
    rows = fitting_rows(values)[-1]
    return Book(rows[0]) if len(rows) > 0 else None


def count_books(values):
    """How many small books have these values."""
    return len(fitting_rows(values)[-1])


def book_at(values, number):
    """The small book with this index among those that have these values."""
    rows = fitting_rows(values)[-1]
    need_below(len(rows), number)
    return Book(rows[number])


def narrowed(values):
    """The list of how many small books fit the first none, the first one, two, .. of the values, to all."""
    return [len(rows) for rows in fitting_rows(values)]


def none_from(values):
    """The least heap such that no small book has the values up to it, None if some book has all."""
    many = narrowed(values)
    return many.index(0) if many[-1] == 0 else None
