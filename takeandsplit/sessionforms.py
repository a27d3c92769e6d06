"""Sessions' texts that are read: a house, then heaps, then questions."""

from takeandsplit.housetexts import HouseForm
from takeandsplit.slots import numbers_from, past_word
from takeandsplit.standings import PLAIN_QUESTIONS
from takeandsplit.things import MOST_HEAP


def heap_beginning(known, names):
    """A pair of one of the names and a heap that can stand here up to the line's end, None if there is none."""
    for name in names:
        behind = past_word(name + " ", known)
        if behind is not None:
            for heap, end in numbers_from(1, MOST_HEAP, behind):
                if past_word("\n", end) is not None:
                    return (name, heap)
    return None


def put_beginning(known, names):
    """A pair whose line begins with what is known, None if there is none."""
    behind = past_word("put ", known)
    return None if behind is None else heap_beginning(behind, names)


def question_beginning(known, names):
    """A question that can stand here up to the line's end, None if there is none."""
    for word in PLAIN_QUESTIONS:
        if past_word(word + "\n", known) is not None:
            return (word,)
    behind = past_word("value ", known)
    pair = None if behind is None else heap_beginning(behind, names)
    return None if pair is None else ("value",) + pair


def asking_beginning(known, names):
    """A question, with whether it is held, whose line begins with what is known, None if there is none."""
    for word in ("watch", "hold"):
        behind = past_word(word + " ", known)
        if behind is not None:
            question = question_beginning(behind, names)
            return None if question is None else (question, word == "hold")
    return None


class SessionForm:
    """A session, as it is read."""

    def __init__(self):
        self.house_form = HouseForm()
        self.pairs = []
        self.asked = []

    def found(self, start):
        """Some (kind of line, what it tells) whose line begins with start."""
        names = list(self.house_form.forms)
        book = self.house_form.found(start) if len(self.pairs) + len(self.asked) == 0 else None
        if book is not None:
            return ("house", book)
        pair = put_beginning(start, names) if len(self.asked) == 0 else None
        if pair is not None:
            return ("put", pair)
        asking = asking_beginning(start, names)
        # A question that stands counts as read up to its line feed.
        if asking is None or (start.endswith("\n") and asking[0] in dict(self.asked)):
            return None
        return ("ask", asking)

    def keep(self, found):
        """Reads one more line."""
        kind, told = found
        if kind == "house":
            self.house_form.keep(told)
        elif kind == "put":
            self.pairs.append(told)
        else:
            self.asked.append(told)

    def may_end(self):
        """A session's text may end behind each line."""
        return True
