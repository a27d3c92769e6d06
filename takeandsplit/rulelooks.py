"""How far to look where a rule more or a rule less is to change the values of a book."""

from math import lcm

from takeandsplit.papers import least_paper
from takeandsplit.rules import is_growing, reach_of, turn_of


def look_beyond(paper, rules):
    """A number such that what these rules would change changes a heap below it, if it ever changes one.

    The paper tells the values of a book that has these rules, or all but one
    of them. Without a gain, or without a rule that grows, what is left of two
    heaps that are a common multiple of the period and the moduli apart has the
    same values, each as much more as theirs, once both are above this. With a
    growing rule small values of early heaps, which do not rise, are left of
    all greater heaps: so it is looked on to where all values are beyond them,
    and beyond as many as what the other rules leave can be.
    """
    begin, period, gain, told = least_paper(paper)
    turn = lcm(period, turn_of(rules))
    reach = reach_of(rules)
    end = 2 * begin + 2 * turn + reach
    if gain == 0 or not any([is_growing(rule) for rule in rules]):
        return end
    return end + period * ((max(told) + reach) // gain + 3)
