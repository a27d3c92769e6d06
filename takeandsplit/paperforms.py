"""Papers' texts that are read."""

from takeandsplit.namedforms import NamedForm
from takeandsplit.slots import MOST_WRITTEN, numbers_from, past_word

HEADS = ("begin ", "period ", "gain ")
LEAST_HEADS = (1, 1, 0)


def number_beginning(word, low, high, known):
    """A number from low to high whose line behind the word begins with what is known, None if there is none."""
    behind = past_word(word, known)
    if behind is None:
        return None
    for number, end in numbers_from(low, high, behind):
        if past_word("\n", end) is not None:
            return number
    return None


class PaperForm:
    """One paper, as it is read: begin, period and gain, then its values."""

    def __init__(self):
        self.heads = []
        self.told = []

    def found(self, start):
        """A number whose line may come next, and begins with start."""
        many = len(self.heads)
        if many < len(HEADS):
            return number_beginning(HEADS[many], LEAST_HEADS[many], MOST_WRITTEN, start)
        if self.may_end():
            return None
        high = 0 if len(self.told) == 0 else MOST_WRITTEN
        return number_beginning("value ", 0, high, start)

    def keep(self, number):
        """Reads the next number."""
        if len(self.heads) < len(HEADS):
            self.heads.append(number)
        else:
            self.told.append(number)

    def may_end(self):
        """A paper's text ends with the last of its values."""
        return len(self.heads) == len(HEADS) and len(self.told) == self.heads[0] + self.heads[1]

    def told_paper(self):
        """The paper that is read."""
        begin, period, gain = self.heads
        return (begin, period, gain, list(self.told))


class PapersForm(NamedForm):
    """Papers under names, as they are read."""

    def fresh(self):
        """The form of one paper."""
        return PaperForm()

    def told_papers(self):
        """The list of the pairs of a name and its paper, by names."""
        return [(name, self.forms[name].told_paper()) for name in sorted(self.forms)]
