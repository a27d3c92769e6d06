"""Sessions: a house that lives, with a position that is played."""

from takeandsplit.deeds import kept_deed, standing_behind
from takeandsplit.errors import BadQuestion, InUse, NoCount, WouldChange
from takeandsplit.houses import House
from takeandsplit.reckoning import Reckoner
from takeandsplit.standings import Standing, answer_of, changes, first_to_end, is_question_of, why_changed
from takeandsplit.things import is_number


def deed_done(ahead, deed):
    """The deed as it is kept, the standing behind it, and the answers that change."""
    kept = kept_deed(ahead, deed)
    behind = standing_behind(ahead, kept)
    ended = first_to_end(ahead, behind)
    if ended is not None:
        raise InUse(ended)
    return (kept, behind, changes(ahead, behind))


class Session:
    """A house and a position, with questions that are watched, and the deeds by which they came to be.

    The trail has the deeds that are done, each with the standing behind it,
    then those that can be done again. It is never changed, but replaced: so
    copies and trials can keep it.
    """

    def __init__(self):
        self._start = Standing(Reckoner(House([])), [], [])
        self._trail = []
        self._done = 0

    def standing(self):
        """What the session stands at."""
        return self._start if self._done == 0 else self._trail[self._done - 1][1]

    def now(self):
        """The house."""
        return self.standing().here()

    def position(self):
        """The position, ascending."""
        return list(self.standing().pairs)

    def watched(self):
        """The list of the triples of a watched question, its answer, and whether it is held, as they came."""
        standing = self.standing()
        return [(question, answer_of(standing, question), held) for question, held in standing.asked]

    def do(self, deed):
        """Does the deed, and tells which watched questions are answered otherwise behind it."""
        ahead = self.standing()
        kept, behind, changed = deed_done(ahead, deed)
        held = dict(ahead.asked)
        for change in changed:
            if held[change[0]]:
                raise WouldChange(change[0], why_changed(behind, change))
        self._trail = self._trail[:self._done] + [(kept, behind)]
        self._done += 1
        return changed

    def is_question(self, thing):
        """Whether any object is a question now."""
        return is_question_of(self.now(), thing)

    def answer(self, question):
        """The answer of a question."""
        if not self.is_question(question):
            raise BadQuestion(question)
        return answer_of(self.standing(), question)

    def would(self, deed):
        """What do would tell, if nothing were held."""
        return deed_done(self.standing(), deed)[2]

    def count(self):
        """How many deeds are done, and not taken back."""
        return self._done

    def deeds(self):
        """The list of these deeds."""
        return [deed for deed, _ in self._trail[:self._done]]

    def undo(self):
        """Takes the last deed back, and tells it, None if there is none."""
        if self._done == 0:
            return None
        self._done -= 1
        return self._trail[self._done][0]

    def again(self):
        """Does again the deed that was taken back last, and tells it, None if there is none."""
        if self._done == len(self._trail):
            return None
        self._done += 1
        return self._trail[self._done - 1][0]

    def copy(self):
        """Another session, the same in all this, that goes on by itself."""
        other = Session()
        other._start, other._trail, other._done = self._start, self._trail, self._done
        return other

    def at(self, number):
        """A session as this one was behind so many deeds."""
        if not is_number(number) or number > self._done:
            raise NoCount(number)
        other = Session()
        other._start, other._trail, other._done = self._start, self._trail[:number], number
        return other

    def trial(self, work):
        """What the function returns that is called with the session; behind it, all is as ahead."""
        trail, done = self._trail, self._done
        try:
            return work(self)
        finally:
            self._trail, self._done = trail, done

    def __eq__(self, other):
        return isinstance(other, Session) and self.standing().is_like(other.standing())


def session_from(house, position, asked):
    """A session of a house, an ascending position and questions, each with whether it is held; no deed is done."""
    session = Session()
    session._start = Standing(Reckoner(house), position, asked)
    return session
