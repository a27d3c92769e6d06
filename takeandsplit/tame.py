"""Tame heaps and tame books: those whose values tell who wins where who takes last loses, too."""

from takeandsplit.checks import need_heap
from takeandsplit.engine import need_engine
from takeandsplit.errors import HasGrowing
from takeandsplit.looks import look_end
from takeandsplit.takings import grows
from takeandsplit.things import is_heap, is_row

LETTERS = ("a", "b", "d")


def need_no_growing_name(engine, name):
    """Raises BadEngine for what is no engine, NoName for none of its names, HasGrowing where the book grows."""
    need_engine(engine)
    if grows(engine.house().book(name)):
        raise HasGrowing(name)


def wanted_kinds(finder, heap):
    """The list of the lists of kinds such that a tame heap has an option of one of each list."""
    value = finder.heap_value(heap)
    if value > 1:
        return [[(True, 1), (False, 0)], [(True, 0), (False, 1)]]
    if value == 1:
        return [[(True, 0)]]
    return [[(True, 1)]] if finder.leavings(heap).many() > 0 else []


def least_shown(finder, heap):
    """The list of the least options of these kinds, None for each that there is none of."""
    return [finder.choices(heap, kinds).least() for kinds in wanted_kinds(finder, heap)]


def why_not(finder, heap):
    """The first letter of what is not so of the heap, None if it is tame."""
    value = finder.heap_value(heap)
    if None in least_shown(finder, heap):
        return LETTERS[min(value, 2)]
    if value <= 1 and finder.choices(heap, [(False, 1 - value)]).least() is not None:
        return "c"
    return None


def tame_why(engine, name, heap):
    """The first letter of what is not so of the heap under the name, None if it is tame."""
    need_no_growing_name(engine, name)
    need_heap(heap)
    return why_not(engine.finder(name), heap)


def tame_by(engine, name, heap):
    """The list of the least options that show the heap to be tame, None if it is not."""
    if tame_why(engine, name, heap) is not None:
        return None
    return least_shown(engine.finder(name), heap)


def first_not_tame(finder):
    """The least heap that is not tame, with the letter, None if all are."""
    begin, period, _, _ = finder.own_paper
    for heap in range(1, look_end(finder.own_book, begin, period) + 1):
        why = why_not(finder, heap)
        if why is not None:
            return (heap, why)
    return None


def kept_fault(finder):
    """The same, looked for once alone: each question about a position asks it of all its books."""
    if len(finder.tame_faults) == 0:
        finder.tame_faults.append(first_not_tame(finder))
    return finder.tame_faults[0]


def tame_fault(engine, name):
    """The least heap under the name that is not tame, with the letter, None if all are."""
    need_no_growing_name(engine, name)
    return kept_fault(engine.finder(name))


def is_tame_fault(engine, name, thing):
    """Whether any object is a pair of some heap under the name that is not tame, and the letter."""
    need_no_growing_name(engine, name)
    if not is_row(thing) or len(thing) != 2 or not is_heap(thing[0]):
        return False
    why = why_not(engine.finder(name), thing[0])
    return why is not None and thing[1] == why
