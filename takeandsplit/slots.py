"""Words, numbers and names in lines of which only a beginning may be known.

Each function gets what is known of the line from its place on, and tells what
is known behind it: "" also where all behind it is still free.
"""

from takeandsplit.things import FIGURES, LETTERS, MOST_NAME, is_name, is_name_sign

MOST_FIGURES = 19
MOST_WRITTEN = 9999999999999999999


def past_word(word, known):
    """What is known behind the word, None if it can not stand here."""
    if known.startswith(word):
        return known[len(word):]
    if word.startswith(known):
        return ""
    return None


def figures_ahead(known):
    """How many figures stand first, or one more than a number may have."""
    size = 0
    while size < len(known) and size <= MOST_FIGURES and known[size] in FIGURES:
        size += 1
    return size


def numbers_from(low, high, known):
    """Pairs (number, what is known behind it) for all numbers from low to high that can stand here."""
    size = figures_ahead(known)
    figures = known[:size]
    behind = known[size:]
    if size > MOST_FIGURES or (size > 1 and figures[0] == "0") or (size == 0 and behind != ""):
        return
    if size == 0:
        for number in range(low, high + 1):
            yield (number, "")
        return
    least = most = int(figures)
    if behind != "" or least == 0:
        if low <= least <= high:
            yield (least, behind)
        return
    while least <= high:
        for number in range(max(least, low), min(most, high) + 1):
            yield (number, "")
        least, most = 10 * least, 10 * most + 9


def name_signs_ahead(known):
    """How many signs of names stand first, or one more than a name may have."""
    size = 0
    while size < len(known) and size <= MOST_NAME and is_name_sign(known[size]):
        size += 1
    return size


def names_grown(head):
    """All names that begin with the head, which is "" or begins with a letter."""
    if is_name(head):
        yield head
    if len(head) < MOST_NAME:
        signs = LETTERS if head == "" else LETTERS + FIGURES
        for sign in signs:
            longer = head + sign
            yield from names_grown(longer)


def names_from(known):
    """Pairs (name, what is known behind it) for all names that can stand here."""
    size = name_signs_ahead(known)
    head = known[:size]
    behind = known[size:]
    if size > MOST_NAME or (size > 0 and head[0] in FIGURES):
        return
    if behind != "":
        if is_name(head):
            yield (head, behind)
        return
    for name in names_grown(head):
        yield (name, "")
