"""The heaps that have a value by a paper, however great."""

from takeandsplit.checks import need_heap, need_number
from takeandsplit.papers import need_paper
from takeandsplit.places import places_of


def heaps_with(paper, value):
    """The heaps that have the value; raises BadPaper for what is no paper, BadNumber for what is no number."""
    need_paper(paper)
    need_number(value)
    return places_of(paper, value)


def count_with(paper, value, most):
    """How many of the heaps 1 to most have the value."""
    places = heaps_with(paper, value)
    need_number(most)
    return places.many_to(most)


def heap_with(paper, value, number):
    """The heap with this index among all that have the value, None if there are no more."""
    places = heaps_with(paper, value)
    need_number(number)
    return places.with_index(number)


def next_with(paper, value, heap):
    """The first heap from this one on that has the value, None if there is none."""
    places = heaps_with(paper, value)
    need_heap(heap)
    return places.first_from(heap)


def is_endless(paper, value):
    """Whether there is no end of heaps with the value."""
    return heaps_with(paper, value).are_endless()
