"""Engines: houses with a right paper of each book."""

from takeandsplit.checks import need_house, need_position
from takeandsplit.errors import BadEngine, BadPapers, WrongPaper
from takeandsplit.finding import Finder
from takeandsplit.judging import is_right
from takeandsplit.papers import copied_paper
from takeandsplit.tables import sum_of


def has_just(thing, names):
    """Whether any object is a dict that has just these names."""
    return isinstance(thing, dict) and len(thing) == len(names) and all([name in thing for name in names])


class Engine:
    """A house, and a right paper of each of its books."""

    def __init__(self, house, papers):
        need_house(house)
        books = house.books()
        if not has_just(papers, [name for name, _ in books]):
            raise BadPapers(papers)
        for name, book in books:
            if not is_right(book, papers[name]):
                raise WrongPaper(name)
        self._house = house
        self._papers = {name: copied_paper(papers[name]) for name, _ in books}
        self._finders = {name: Finder(book, self._papers[name]) for name, book in books}

    def house(self):
        """The house."""
        return self._house

    def papers(self):
        """A dict from the names of the house, ascending, to the papers."""
        return {name: copied_paper(paper) for name, paper in self._papers.items()}

    def finder(self, name):
        """What tells of the heaps under one of the names."""
        return self._finders[name]

    def value(self, position):
        """The sum without carry of the values of the position's heaps."""
        need_position(self._house, position)
        return sum_of([self._finders[name].heap_value(heap) for name, heap in position])

    def wins(self, position):
        """Whether who moves wins, who takes last winning."""
        return self.value(position) != 0

    def __eq__(self, other):
        return isinstance(other, Engine) and self._house == other._house and self._papers == other._papers


def need_engine(thing):
    """Raises BadEngine for what is no engine."""
    if not isinstance(thing, Engine):
        raise BadEngine(thing)
