"""Books that grow: bases, states, and papers that are shown by a state which comes again."""

from math import lcm

from takeandsplit.checks import need_from_one
from takeandsplit.errors import NotGrowing
from takeandsplit.papers import is_paper
from takeandsplit.rules import reach_of, turn_of
from takeandsplit.tables import Table
from takeandsplit.takings import grows, last_values, need_heap_above
from takeandsplit.values import paper_values_fault


def need_growing(book):
    """Raises NotGrowing for a book that does not grow, BadBook for what is no book."""
    if not grows(book):
        raise NotGrowing()


class States:
    """The states of the heaps of a growing book, asked for from heap to heap, upwards."""

    def __init__(self, book):
        rules = book.rules()
        self.reach = reach_of(rules)
        self.turn = turn_of(rules)
        self.table = Table(book)

    def base_of(self, heap):
        """The base at the heap."""
        self.table.reckon_to(heap)
        return self.table.base

    def state_of(self, heap):
        """The state of the heap."""
        base = self.base_of(heap)
        extras = sorted([value - base for value in self.table.grown if value > base])
        last = [max(value - base, -1) for value in last_values(self.table.told, heap, self.reach)]
        return (heap % self.turn, extras, last)


def states_above(book, heap):
    """The states of the book's heaps; raises BadHeap for what is no heap that has one."""
    need_growing(book)
    states = States(book)
    need_heap_above(states.reach, heap)
    return states


def base_at(book, heap):
    """The least number that is the value of nothing which growing rules leave of the heap."""
    return states_above(book, heap).base_of(heap)


def state_at(book, heap):
    """The state of the heap: its rest, and what stands above the base, or is among the last values, less the base."""
    return states_above(book, heap).state_of(heap)


def growing_paper(book, most):
    """The paper by the least heap, to most, whose state is that of one ahead, None if there is none."""
    need_growing(book)
    need_from_one(most)
    states = States(book)
    seen = {}
    for heap in range(states.reach + 1, most + 1):
        base = states.base_of(heap)
        rest, extras, last = states.state_of(heap)
        state = (rest, tuple(extras), tuple(last))
        if state in seen:
            ahead, less = seen[state]
            return (ahead, heap - ahead, base - less, states.table.told[:heap])
        seen[state] = (heap, base)
    return None


def is_shown(book, paper, heap, period):
    """Whether the states of a heap and of one greater by a multiple of the paper's period show how values go on."""
    states = States(book)
    base = states.base_of(heap)
    state = states.state_of(heap)
    more = states.base_of(heap + period) - base
    return state == states.state_of(heap + period) and more == paper[2] * (period // paper[1])


def growing_fault(book, thing):
    """What is wrong with any object as a paper that is shown by a state, None if nothing is."""
    need_growing(book)
    if not is_paper(thing):
        return ("form",)
    rules = book.rules()
    first = max(thing[0], reach_of(rules) + 1)
    period = lcm(thing[1], turn_of(rules))
    fault = paper_values_fault(book, thing, first + period)
    if fault is None and not is_shown(book, thing, first, period):
        return ("state",)
    return fault
