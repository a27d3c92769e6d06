"""Who wins where who takes last loses, in positions of tame books."""

from takeandsplit.checks import need_position
from takeandsplit.engine import need_engine
from takeandsplit.errors import HasGrowing, NotTame
from takeandsplit.tables import sum_of
from takeandsplit.takings import grows
from takeandsplit.tame import kept_fault


def need_tame(engine, position):
    """Raises BadEngine, BadPosition, HasGrowing or NotTame for what has no tame book under each of its names."""
    need_engine(engine)
    house = engine.house()
    need_position(house, position)
    names = sorted({name for name, _ in position})
    for name in names:
        if grows(house.book(name)):
            raise HasGrowing(name)
    for name in names:
        if kept_fault(engine.finder(name)) is not None:
            raise NotTame(name)


def heap_values(engine, position):
    """The list of the values of the position's heaps."""
    return [engine.finder(name).heap_value(heap) for name, heap in position]


def is_lost(told):
    """Whether who moves loses, where who takes last loses, by the list of the values of all heaps."""
    return sum_of(told) == (0 if max(told, default=0) > 1 else 1)


def loses_last(engine, position):
    """Whether who moves loses in a position of tame books."""
    return is_lost(heap_values(engine, position))


def wins_last(engine, position):
    """Whether who moves wins, who takes last losing."""
    need_tame(engine, position)
    return not loses_last(engine, position)


def is_turned(engine, position):
    """Whether another one wins than where who takes last wins."""
    return wins_last(engine, position) != engine.wins(position)
