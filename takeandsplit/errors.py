"""What can go wrong: each kind of error is a class of its own, right beneath HeapError."""


class HeapError(ValueError):
    """What all errors of the package are."""


class BadBook(HeapError):
    """For what is no book."""

    def __init__(self, thing):
        self.thing = thing


class BadBooks(HeapError):
    """For the first thing that is no pair of a name and a book, or whose name stood before."""

    def __init__(self, index):
        self.index = index


class BadClaim(HeapError):
    """For what is no claim of a position of the engine's house."""

    def __init__(self, thing):
        self.thing = thing


class BadDeed(HeapError):
    """For what is no deed."""

    def __init__(self, thing):
        self.thing = thing


class BadEngine(HeapError):
    """For what is no engine."""

    def __init__(self, thing):
        self.thing = thing


class BadForm(HeapError):
    """For what has not the form of what is to be written."""

    def __init__(self, thing):
        self.thing = thing


class BadHeap(HeapError):
    """For what is no heap."""

    def __init__(self, thing):
        self.thing = thing


class BadHouse(HeapError):
    """For what is no house."""

    def __init__(self, thing):
        self.thing = thing


class BadLine(HeapError):
    """For what is no line of a position."""

    def __init__(self, thing):
        self.thing = thing


class BadMove(HeapError):
    """For what is no move of a position."""

    def __init__(self, thing):
        self.thing = thing


class BadName(HeapError):
    """For what is no name that a deed can have there."""

    def __init__(self, thing):
        self.thing = thing


class BadNumber(HeapError):
    """For what is no number that is asked for."""

    def __init__(self, thing):
        self.thing = thing


class BadNumbers(HeapError):
    """For the first thing of a list that is no number."""

    def __init__(self, index):
        self.index = index


class BadOption(HeapError):
    """For what is no option."""

    def __init__(self, thing):
        self.thing = thing


class BadPairs(HeapError):
    """For the first thing that is no pair of a book and its paper."""

    def __init__(self, index):
        self.index = index


class BadPaper(HeapError):
    """For what is no paper."""

    def __init__(self, thing):
        self.thing = thing


class BadPapers(HeapError):
    """For what is no dict from just the names of a house."""

    def __init__(self, thing):
        self.thing = thing


class BadPeriod(HeapError):
    """For what is no multiple of a paper's period."""

    def __init__(self, thing):
        self.thing = thing


class BadPosition(HeapError):
    """For the first thing that is no pair of a name of the house and a heap."""

    def __init__(self, index):
        self.index = index


class BadQuestion(HeapError):
    """For what is no question now."""

    def __init__(self, thing):
        self.thing = thing


class BadRule(HeapError):
    """For what is no rule."""

    def __init__(self, thing):
        self.thing = thing


class BadRules(HeapError):
    """For the first thing that is no rule, stood before, or does not go with one ahead."""

    def __init__(self, index):
        self.index = index


class BadSession(HeapError):
    """For what is no session."""

    def __init__(self, thing):
        self.thing = thing


class BadText(HeapError):
    """For a text that is not read, with the place of its first wrong sign."""

    def __init__(self, line, sign):
        self.line = line
        self.sign = sign


class BadValues(HeapError):
    """For the first thing of a list of values that is no number."""

    def __init__(self, index):
        self.index = index


class BadWindow(HeapError):
    """For what is no window."""

    def __init__(self, thing):
        self.thing = thing


class Grows(HeapError):
    """For a book with a growing rule, where none may have one."""


class HasGrowing(HeapError):
    """For a name whose book has a growing rule, where none may have one."""

    def __init__(self, name):
        self.name = name


class HasRule(HeapError):
    """For a rule that stands in the book, or does not go with what does."""

    def __init__(self, rule):
        self.rule = rule


class InPlay(HeapError):
    """For a name of which a heap is there."""

    def __init__(self, name):
        self.name = name


class InUse(HeapError):
    """For a watched question that would be none behind a deed."""

    def __init__(self, question):
        self.question = question


class IsWatched(HeapError):
    """For a question that is watched."""

    def __init__(self, question):
        self.question = question


class LostHere(HeapError):
    """For a position in which who moves loses, where who takes last loses."""


class NoCount(HeapError):
    """For what is no number of deeds up to those that are done."""

    def __init__(self, thing):
        self.thing = thing


class NoName(HeapError):
    """For what is no name of the house."""

    def __init__(self, thing):
        self.thing = thing


class NoRule(HeapError):
    """For what is no rule of the book."""

    def __init__(self, thing):
        self.thing = thing


class NotAlone(HeapError):
    """For a book that does not take alone."""


class NotGrowing(HeapError):
    """For a book that does not grow."""


class NotRight(HeapError):
    """For what is no right paper of the book."""

    def __init__(self, thing):
        self.thing = thing


class NotTame(HeapError):
    """For a name whose book is not tame."""

    def __init__(self, name):
        self.name = name


class NotWatched(HeapError):
    """For a question that is not watched."""

    def __init__(self, question):
        self.question = question


class NotWon(HeapError):
    """For a position that is not won, with its value."""

    def __init__(self, value):
        self.value = value


class WouldChange(HeapError):
    """For a held question that would be answered otherwise, and why."""

    def __init__(self, question, why):
        self.question = question
        self.why = why


class WrongPaper(HeapError):
    """For the first name whose paper is not right for its book."""

    def __init__(self, name):
        self.name = name
