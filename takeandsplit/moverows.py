"""Moves in rows: triples (name, heap, some of the heap's options), by names and heaps, counted and told by index."""


def unlike_pairs(position):
    """The ascending list of the unlike pairs of a position."""
    return sorted({tuple(pair) for pair in position})


def count_in_rows(rows):
    """How many moves there are in the rows."""
    return sum([some.many() for _, _, some in rows])


def move_in_rows(rows, number):
    """The move with this index, of a number below their count."""
    rank = number
    for name, heap, some in rows:
        if rank < some.many():
            return (name, heap, some.option_with(rank))
        rank -= some.many()
    return None


def number_in_rows(rows, move):
    """The index of a move that is in the rows."""
    pair = (move[0], move[1])
    ahead = [some.many() for name, heap, some in rows if (name, heap) < pair]
    own = [some.number_of(sorted(move[2])) for name, heap, some in rows if (name, heap) == pair]
    return sum(ahead + own)


def least_in_rows(rows):
    """The first move that is in the rows, None if there is none."""
    for name, heap, some in rows:
        option = some.least()
        if option is not None:
            return (name, heap, option)
    return None
