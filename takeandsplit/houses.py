"""Houses: books under names."""

from takeandsplit.books import Book
from takeandsplit.errors import BadBooks, NoName
from takeandsplit.things import is_name, is_row


def books_fault(thing):
    """The index of the first thing that can be no book of a house there, 0 for no list, None for a house's books."""
    if not is_row(thing):
        return 0
    seen = {}
    for index, part in enumerate(thing):
        if not is_row(part) or len(part) != 2 or not is_name(part[0]):
            return index
        if not isinstance(part[1], Book) or part[0] in seen:
            return index
        seen[part[0]] = True
    return None


class House:
    """Books, each under a name of its own."""

    def __init__(self, books):
        index = books_fault(books)
        if index is not None:
            raise BadBooks(index)
        self._books = sorted([tuple(pair) for pair in books], key=lambda pair: pair[0])

    def books(self):
        """The list of the pairs of a name and its book, by names."""
        return list(self._books)

    def book(self, name):
        """The book of this name."""
        for known, book in self._books:
            if isinstance(name, str) and known == name:
                return book
        raise NoName(name)

    def __eq__(self, other):
        return isinstance(other, House) and self._books == other._books
