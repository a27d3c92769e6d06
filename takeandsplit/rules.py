"""What rules are, their lines, and which ones go with one another."""

from math import lcm

from takeandsplit.things import is_number, is_row

LEFTS = ("none", "one", "two")


def is_rule(thing):
    """Whether it has the form of a rule."""
    if not is_row(thing) or len(thing) != 5:
        return False
    low, high, left, rest, modulus = thing
    if not isinstance(left, str) or left not in LEFTS:
        return False
    if not is_number(low) or (low == 0 and left != "two"):
        return False
    if not is_number(rest) or not is_number(modulus) or rest >= modulus:
        return False
    if high is None:
        return modulus == 1 and left != "two"
    return is_number(high) and high >= low


def is_growing(rule):
    """Whether the rule lets be taken whatever is not less than its low."""
    return rule[1] is None


def is_splitting(rule):
    """Whether the rule leaves two heaps."""
    return rule[2] == "two"


def turn_of(rules):
    """The least common multiple of the rules' moduli, 1 without rules."""
    turn = 1
    for rule in rules:
        turn = lcm(turn, rule[4])
    return turn


def reach_of(rules):
    """The greatest number that stands as a low or high in the rules, 0 without any."""
    return max([rule[0] if is_growing(rule) else rule[1] for rule in rules], default=0)


def rule_takes(rule, heap, taken, many):
    """Whether the rule lets so much be taken of the heap, so many heaps being left."""
    low, high, left, rest, modulus = rule
    if LEFTS[many] != left or heap % modulus != rest:
        return False
    return low <= taken and (high is None or taken <= high)


def rule_line(rule):
    """The rule's line, without the line feed."""
    low, high, left, rest, modulus = rule
    line = f"take {low}"
    if high is None:
        line = line + " or more"
    elif high != low:
        line = line + f" to {high}"
    line = line + f" leave {left}"
    if modulus != 1:
        line = line + f" when {rest} of {modulus}"
    return line


def rules_fault(thing):
    """The index of the first thing that no rule of a book can be there, 0 for no list, None for a book's rules."""
    if not is_row(thing):
        return 0
    seen = {}
    grows = splits = False
    for index, part in enumerate(thing):
        if not is_rule(part) or tuple(part) in seen:
            return index
        grows = grows or is_growing(part)
        splits = splits or is_splitting(part)
        if grows and splits:
            return index
        seen[tuple(part)] = True
    return None


def is_new_rule(rules, thing):
    """Whether any object is a rule that is none of a book's rules, and may stand beside them."""
    return rules_fault(rules + [thing]) is None
