"""Texts read line by line, to the first wrong sign.

A text is read into a FORM, an object that knows what it has read so far:
`form.found(start)` is something whose line begins with start, the line feed
counted to the line, and may come next, None if there is no such line;
`form.keep(found)` reads what was found; `form.may_end()` tells whether the
text may end here. Whatever a form has read can be led on to a whole text.
"""

from takeandsplit.errors import BadText


def wrong_sign(form, line):
    """The place of the line's first sign up to which no line that may come next is like it; one behind all if none is.

    Where a beginning can not be led on, no longer one can: so it is found by halving.
    """
    good, bad = 0, len(line) + 1
    while bad - good > 1:
        middle = (good + bad) // 2
        if form.found(line[:middle]) is None:
            bad = middle
        else:
            good = middle
    return bad


def fault_by(form, text):
    """The place of the first wrong sign of any object as a text, None if there is none; the form keeps what is read."""
    if not isinstance(text, str):
        return (0, 0)
    lines = text.split("\n")
    last = lines.pop()
    for index, line in enumerate(lines):
        found = form.found(line + "\n")
        if found is None:
            return (index + 1, wrong_sign(form, line))
        form.keep(found)
    if last == "" and form.may_end():
        return None
    return (len(lines) + 1, wrong_sign(form, last))


def read_into(form, text):
    """Reads the whole text into the form, or raises BadText with the place of the first wrong sign."""
    fault = fault_by(form, text)
    if fault is not None:
        line, sign = fault
        raise BadText(line, sign)


def place_behind(text):
    """The place one behind the last sign of a string."""
    lines = text.split("\n")
    return (len(lines), len(lines[-1]) + 1)
