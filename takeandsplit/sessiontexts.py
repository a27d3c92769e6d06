"""Sessions as texts."""

from takeandsplit.errors import BadSession
from takeandsplit.houses import House
from takeandsplit.housetexts import house_text
from takeandsplit.reading import read_into
from takeandsplit.sessionforms import SessionForm
from takeandsplit.sessions import Session, session_from


def asking_line(question, held):
    """The line of a watched question."""
    word = "hold" if held else "watch"
    return word + " " + " ".join([f"{part}" for part in question]) + "\n"


def write_session(session):
    """The house's text, then a line for each heap of the position, ascending, then one for each watched question."""
    if not isinstance(session, Session):
        raise BadSession(session)
    puts = [f"put {name} {heap}\n" for name, heap in session.position()]
    asks = [asking_line(question, held) for question, held in session.standing().asked]
    return house_text(session.now()) + "".join(puts + asks)


def read_session(text):
    """The session of a text, with no deed done."""
    form = SessionForm()
    read_into(form, text)
    return session_from(House(form.house_form.told_books()), sorted(form.pairs), form.asked)
