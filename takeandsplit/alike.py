"""Books alike, by right papers of them, or the least heap that parts them."""

from takeandsplit.books import Book
from takeandsplit.errors import BadPairs
from takeandsplit.judging import is_right, need_right
from takeandsplit.papers import papers_part, told_of
from takeandsplit.things import is_row


def parted(book, paper, other, twin):
    """The least heap whose values by two books are unlike, with both values, None if the books are alike."""
    need_right(book, paper)
    need_right(other, twin)
    heap = papers_part(paper, twin)
    return None if heap is None else (heap, told_of(paper, heap), told_of(twin, heap))


def need_pairs(thing):
    """Raises BadPairs for what is no list of pairs of a book and a right paper of it."""
    if not is_row(thing):
        raise BadPairs(0)
    for index, part in enumerate(thing):
        if not is_row(part) or len(part) != 2 or not isinstance(part[0], Book) or not is_right(part[0], part[1]):
            raise BadPairs(index)


def alike_lots(pairs):
    """The ascending list of the lists of the indexes of pairs whose books are alike."""
    need_pairs(pairs)
    lots = []
    for index, pair in enumerate(pairs):
        alike = [lot for lot in lots if papers_part(pairs[lot[0]][1], pair[1]) is None]
        if len(alike) > 0:
            alike[0].append(index)
        else:
            lots.append([index])
    return lots


def telling_heaps(pairs):
    """The ascending list of the heaps that part some two of the pairs, each once."""
    need_pairs(pairs)
    papers = [paper for _, paper in pairs]
    parts = [papers_part(papers[one], papers[two]) for two in range(len(papers)) for one in range(two)]
    return sorted({heap for heap in parts if heap is not None})
