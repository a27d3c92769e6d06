"""What a session stands at, and the questions that can be asked there."""

from takeandsplit.moverows import count_in_rows
from takeandsplit.moves import rows_of
from takeandsplit.things import is_heap, is_row

PLAIN_QUESTIONS = ("wins", "moves", "winning")


def names_of(house):
    """The list of the names of a house."""
    return [name for name, _ in house.books()]


class Standing:
    """A house with its reckoner, the ascending pairs of a position, and the watched questions; it never changes.

    `asked` is the list of the pairs of a question and whether it is held, as they came.
    """

    def __init__(self, reckoner, pairs, asked):
        self.reckoner = reckoner
        self.pairs = pairs
        self.asked = asked

    def here(self):
        """The house."""
        return self.reckoner.own_house

    def is_like(self, other):
        """Whether another one has the same house, the same heaps, and the same questions, held alike, in one order."""
        return self.here() == other.here() and self.pairs == other.pairs and self.asked == other.asked


def is_question_of(house, thing):
    """Whether any object is a question where this is the house."""
    if not is_row(thing):
        return False
    if len(thing) == 1:
        return thing[0] in PLAIN_QUESTIONS
    return len(thing) == 3 and thing[0] == "value" and thing[1] in names_of(house) and is_heap(thing[2])


def answer_of(standing, question):
    """The answer of a question that is one there."""
    reckoner = standing.reckoner
    if question[0] == "wins":
        return reckoner.worth_of(standing.pairs) != 0
    if question[0] == "moves":
        return count_in_rows(rows_of(standing.here(), standing.pairs))
    if question[0] == "winning":
        return sum([len(some) for _, _, some in reckoner.winning_rows(standing.pairs)])
    return reckoner.heap_value(question[1], question[2])


def first_to_end(ahead, behind):
    """The first question watched ahead that is none behind, None if all are."""
    for question, _ in ahead.asked:
        if not is_question_of(behind.here(), question):
            return question
    return None


def changes(ahead, behind):
    """The list of the triples of a question watched ahead, its answer there, and another one behind."""
    # What is neither of the books nor of the heaps changes no answer, however great the heaps are.
    if ahead.pairs == behind.pairs and ahead.here() == behind.here():
        return []
    rows = [(question, answer_of(ahead, question), answer_of(behind, question)) for question, _ in ahead.asked]
    return [row for row in rows if row[1] != row[2]]


def why_changed(behind, change):
    """Why a question is answered otherwise, of one of the changes."""
    question, before, after = change
    if question[0] != "wins":
        return (before, after)
    if after:
        return behind.reckoner.first_winning(behind.pairs)
    return behind.reckoner.replies(behind.pairs)
