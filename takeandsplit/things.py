"""What rows, integers, numbers, heaps and names are, whatever object is asked about."""

MOST_HEAP = 1000000000000000000
MOST_NAME = 8
LETTERS = "abcdefghijklmnopqrstuvwxyz"
FIGURES = "0123456789"
WORDS = (
    "take", "to", "or", "more", "leave", "none", "one", "two", "when", "of", "book",
    "begin", "period", "gain", "value", "win", "lose", "move", "watch", "hold",
)


def is_row(thing):
    """Whether it is a list, or a tuple, which may be passed for one."""
    return isinstance(thing, (list, tuple))


def is_integer(thing):
    """Whether it is an int that is not a bool."""
    return isinstance(thing, int) and not isinstance(thing, bool)


def is_number(thing):
    """Whether it is an integer from 0 on."""
    return is_integer(thing) and thing >= 0


def is_heap(thing):
    """Whether it is an integer from 1 to the greatest heap."""
    return is_integer(thing) and 1 <= thing <= MOST_HEAP


def is_name_sign(sign):
    """Whether names may have this sign, somewhere."""
    return sign in LETTERS or sign in FIGURES


def is_name(thing):
    """Whether it is a string that is a name."""
    if not isinstance(thing, str) or not 1 <= len(thing) <= MOST_NAME or thing in WORDS:
        return False
    return thing[0] in LETTERS and all([is_name_sign(sign) for sign in thing])


def numbers_fault(thing):
    """The index of the first thing of a list that is no number, 0 for no list, None if all are."""
    if not is_row(thing):
        return 0
    for index, part in enumerate(thing):
        if not is_number(part):
            return index
    return None


def is_numbers(thing):
    """Whether it is a list of numbers."""
    return numbers_fault(thing) is None


def is_heaps(thing):
    """Whether it is a list of at most two heaps, in whatever order."""
    return is_row(thing) and len(thing) <= 2 and all([is_heap(part) for part in thing])


def is_leaving(thing):
    """Whether it is a list of at most two heaps, the lesser one first."""
    return is_heaps(thing) and (len(thing) < 2 or thing[0] <= thing[1])


def is_pair(thing):
    """Whether it is a pair of a name and a heap."""
    return is_row(thing) and len(thing) == 2 and is_name(thing[0]) and is_heap(thing[1])
