"""Lines of rules of which only a beginning may be known, and books' texts that are read."""

from takeandsplit.rules import LEFTS, is_growing, is_splitting
from takeandsplit.slots import MOST_WRITTEN, numbers_from, past_word


def rules_when(low, high, left, known):
    """All such rules with a modulus above 1, of whose lines so much is known behind what they leave."""
    behind = past_word(" when ", known)
    if behind is None:
        return
    most_rest = MOST_WRITTEN - 1
    for rest, link in numbers_from(0, most_rest, behind):
        last = past_word(" of ", link)
        if last is not None:
            least = max(2, rest + 1)
            for modulus, end in numbers_from(least, MOST_WRITTEN, last):
                if past_word("\n", end) is not None:
                    yield (low, high, left, rest, modulus)


def rules_leaving(low, high, known, may_split):
    """All rules with this low and high, of whose lines so much is known behind these."""
    for left in LEFTS:
        behind = past_word(" leave " + left, known)
        allowed = may_split if left == "two" else low > 0
        if allowed and behind is not None:
            if past_word("\n", behind) is not None:
                yield (low, high, left, 0, 1)
            yield from rules_when(low, high, left, behind)


def rules_growing(low, known):
    """All growing rules with this low, of whose lines so much is known behind it."""
    for left in LEFTS:
        if low > 0 and left != "two" and past_word(f" or more leave {left}\n", known) is not None:
            yield (low, None, left, 0, 1)


def rules_taking(low, known, may_grow, may_split):
    """All rules with this low, of whose lines so much is known behind it."""
    yield from rules_leaving(low, low, known, may_split)
    behind = past_word(" to ", known)
    if behind is not None:
        above = low + 1
        for high, rest in numbers_from(above, MOST_WRITTEN, behind):
            yield from rules_leaving(low, high, rest, may_split)
    if may_grow:
        yield from rules_growing(low, known)


def rules_from(known, may_grow, may_split):
    """All rules whose lines begin with what is known."""
    behind = past_word("take ", known)
    if behind is None:
        return
    # Taking nothing goes with "two" alone: else all greater highs would be gone through for it.
    least = 0 if may_split else 1
    for low, rest in numbers_from(least, MOST_WRITTEN, behind):
        yield from rules_taking(low, rest, may_grow, may_split)


class RuleForm:
    """The rules of one book, as they are read."""

    def __init__(self):
        self.kept = {}
        self.grows = False
        self.splits = False

    def found(self, start):
        """A rule that did not stand before, goes with these, and whose line begins with start."""
        may_grow = not self.splits
        may_split = not self.grows
        for rule in rules_from(start, may_grow, may_split):
            if rule not in self.kept:
                return rule
        return None

    def keep(self, rule):
        """Reads one more rule."""
        self.kept[rule] = True
        self.grows = self.grows or is_growing(rule)
        self.splits = self.splits or is_splitting(rule)

    def may_end(self):
        """A book's text may end behind each line."""
        return True

    def told_rules(self):
        """The list of the rules that are read."""
        return list(self.kept)
