"""Texts of several parts, each behind a line `book NAME`, that are read."""

from takeandsplit.slots import names_from, past_word


def names_of_books(known):
    """All names that a line `book NAME` can have of which so much is known."""
    behind = past_word("book ", known)
    if behind is None:
        return
    for name, end in names_from(behind):
        if past_word("\n", end) is not None:
            yield name


def new_name(known, used):
    """A name that such a line can have and that is none of the used ones, None if there is none."""
    for name in names_of_books(known):
        if name not in used:
            return name
    return None


class NamedForm:
    """Forms under unlike names, as they are read; a class below it tells by `fresh` what form a part has."""

    def __init__(self):
        self.forms = {}
        self.latest = None

    def found(self, start):
        """A name that did not stand before, where the latest part may end, or what may come next in this part."""
        name = new_name(start, self.forms) if self.may_end() else None
        if name is not None or self.latest is None:
            return name
        return self.latest.found(start)

    def keep(self, found):
        """Reads one more name, or what comes next in the latest part."""
        if isinstance(found, str):
            self.latest = self.fresh()
            self.forms[found] = self.latest
        else:
            self.latest.keep(found)

    def may_end(self):
        """The text may end ahead of all parts, and where one may."""
        return self.latest is None or self.latest.may_end()
