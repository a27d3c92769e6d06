"""Books' lines where numbers have one figure: so few that all can be listed."""

import bisect
from contextlib import ExitStack
from unittest.mock import patch

from takeandsplit import ruleforms, slots
from takeandsplit.rules import rule_line


def all_small_rules():
    rules = [(low, None, left, 0, 1) for low in range(1, 10) for left in ("none", "one")]
    for low in range(10):
        for high in range(low, 10):
            for left in ("none", "one", "two") if low else ("two",):
                rules.append((low, high, left, 0, 1))
                rules.extend((low, high, left, rest, modulus) for modulus in range(2, 10) for rest in range(modulus))
    return rules


SMALL_RULES = all_small_rules()
LINES = {rule_line(rule) + "\n": rule for rule in SMALL_RULES}
NO_TWO = sorted(line for line, rule in LINES.items() if rule[2] != "two")
NO_GROWING = sorted(line for line, rule in LINES.items() if rule[1] is not None)
ALL_LINES = sorted(LINES)


def small_numbers():
    """Within this, numbers in books' texts have one figure."""
    stack = ExitStack()
    stack.enter_context(patch.object(slots, "MOST_FIGURES", 1))
    stack.enter_context(patch.object(ruleforms, "MOST_WRITTEN", 9))
    return stack


def may_come(used):
    """The ascending lines that go with used ones."""
    if any(LINES[line][1] is None for line in used):
        return NO_TWO
    if any(LINES[line][2] == "two" for line in used):
        return NO_GROWING
    return ALL_LINES


def line_goes_on(start, used):
    """Whether a line begins with start that is none of the used ones and goes with them."""
    lines = may_come(used)
    at = bisect.bisect_left(lines, start)
    while at < len(lines) and lines[at].startswith(start):
        if lines[at] not in used:
            return True
        at += 1
    return False


def book_goes_on_plainly(text):
    """Whether some book's text begins with this one."""
    used = []
    lines = text.split("\n")
    for line in lines[:-1]:
        if line + "\n" not in LINES or not line_goes_on(line + "\n", used):
            return False
        used.append(line + "\n")
    return lines[-1] == "" or line_goes_on(lines[-1], used)


def book_reads_plainly(text):
    """Whether the text is a book's."""
    return (text == "" or text.endswith("\n")) and book_goes_on_plainly(text)
