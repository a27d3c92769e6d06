"""Papers: values that come again, each time by as much more."""

from takeandsplit.checks import need_heap, need_number
from takeandsplit.errors import BadNumber, BadPaper, BadPeriod
from takeandsplit.things import is_number, is_numbers, is_row


def is_paper(thing):
    """Whether it has the form of a paper, whatever object it is."""
    if not is_row(thing) or len(thing) != 4:
        return False
    begin, period, gain, told = thing
    if not is_number(begin) or not is_number(period) or not is_number(gain) or begin == 0 or period == 0:
        return False
    return is_numbers(told) and len(told) == begin + period and told[0] == 0


def need_paper(thing):
    """Raises BadPaper for what is no paper."""
    if not is_paper(thing):
        raise BadPaper(thing)


def copied_paper(paper):
    """The same paper as a tuple of its own, with a list of its own."""
    begin, period, gain, told = paper
    return (begin, period, gain, list(told))


def told_of(paper, number):
    """What the paper tells of a number."""
    begin, period, gain, told = paper
    if number < begin:
        return told[number]
    times, rest = divmod(number - begin, period)
    return told[begin + rest] + times * gain


def told_below(paper, end):
    """The list of what the paper tells of the numbers below the end."""
    return [told_of(paper, number) for number in range(end)]


def value_at(paper, heap):
    """What the paper tells of the heap."""
    need_paper(paper)
    need_heap(heap)
    return told_of(paper, heap)


def values_by(paper, most):
    """The list of what the paper tells of 0 to most."""
    need_paper(paper)
    need_number(most)
    return told_below(paper, most + 1)


def led_on(paper, begin, period):
    """The paper with this begin and this period, a multiple of its own, that tells the same."""
    return (begin, period, paper[2] * period // paper[1], told_below(paper, begin + period))


def led_paper(paper, begin, period):
    """The paper with this begin and period that tells the same."""
    need_paper(paper)
    if not is_number(begin) or begin < paper[0]:
        raise BadNumber(begin)
    if not is_number(period) or period == 0 or period % paper[1] != 0:
        raise BadPeriod(period)
    return led_on(paper, begin, period)


def comes_again(paper, period):
    """Whether from the paper's begin on all it tells comes again so much further on, each time by as much more."""
    begin, own, gain, _ = paper
    if gain * period % own != 0:
        return False
    more = gain * period // own
    return all([told_of(paper, at + period) == told_of(paper, at) + more for at in range(begin, begin + own)])


def least_period(paper):
    """The least period that a paper which tells the same can have.

    What comes again after two periods does so after their difference: so the
    least one divides the paper's own.
    """
    own = paper[1]
    for period in range(1, own):
        if own % period == 0 and comes_again(paper, period):
            return period
    return own


def least_paper(paper):
    """The paper that tells the same with the least period, and of these with the least begin."""
    need_paper(paper)
    period = least_period(paper)
    more = paper[2] * period // paper[1]
    begin = paper[0]
    while begin > 1 and told_of(paper, begin - 1 + period) == told_of(paper, begin - 1) + more:
        begin -= 1
    return (begin, period, more, told_below(paper, begin + period))


def papers_part(paper, other):
    """The least number of which the papers tell unlike values, None if there is none.

    From both begins on it is enough to look as far as both periods together.
    Steps of the one period up and of the other one down stay in this stretch
    and come back to where they began: so where both tell the same there, they
    gain alike in the long run, and what they tell comes again already by the
    greatest common divisor of the periods, there and behind.
    """
    need_paper(paper)
    need_paper(other)
    end = max(paper[0], other[0]) + paper[1] + other[1]
    for number in range(end + 1):
        if told_of(paper, number) != told_of(other, number):
            return number
    return None
