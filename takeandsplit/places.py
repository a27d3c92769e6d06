"""Numbers that come up at once or again and again: counted, and told by index, without going through them."""


def many_below(ascending, number):
    """How many numbers of an ascending list are below this one."""
    low, high = 0, len(ascending)
    while low < high:
        middle = (low + high) // 2
        if ascending[middle] < number:
            low = middle + 1
        else:
            high = middle
    return low


class Places:
    """Some numbers, and those from begin on that are of some rests by the period, which are beyond all of the others.

    Rests are reckoned from begin on; both lists ascend.
    """

    def __init__(self, begin, period, once, rests):
        self.begin = begin
        self.period = period
        self.once = once
        self.rests = rests

    def are_endless(self):
        """Whether there is no end of them."""
        return len(self.rests) > 0

    def many_to(self, number):
        """How many of them are at most this number."""
        many = many_below(self.once, number + 1)
        if number < self.begin:
            return many
        times, rest = divmod(number + 1 - self.begin, self.period)
        return many + times * len(self.rests) + many_below(self.rests, rest)

    def with_index(self, index):
        """The one with this index, ascending, None if there are no more."""
        if index < len(self.once):
            return self.once[index]
        if len(self.rests) == 0:
            return None
        times, at = divmod(index - len(self.once), len(self.rests))
        return self.begin + times * self.period + self.rests[at]

    def first_from(self, number):
        """The first one that is not below this number, None if there is none."""
        return self.with_index(self.many_to(number - 1))


def heaps_late(paper, value):
    """The ascending list of the heaps from begin on that have the value by a paper with a gain."""
    begin, period, gain, told = paper
    heaps = []
    for rest in range(period):
        more = value - told[begin + rest]
        if more >= 0 and more % gain == 0:
            heaps.append(begin + rest + more // gain * period)
    return sorted(heaps)


def places_of(paper, value):
    """The heaps that have the value by the paper."""
    begin, period, gain, told = paper
    once = [heap for heap in range(1, begin) if told[heap] == value]
    if gain != 0:
        return Places(begin, period, once + heaps_late(paper, value), [])
    return Places(begin, period, once, [rest for rest in range(period) if told[begin + rest] == value])
