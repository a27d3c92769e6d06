"""Deeds of a session: judged, kept as tuples throughout, and what they make of a standing."""

from takeandsplit.books import Book
from takeandsplit.errors import (
    BadDeed, BadHeap, BadName, BadQuestion, BadRule, HasRule, InPlay, IsWatched, NoRule, NotWatched,
)
from takeandsplit.houses import House
from takeandsplit.moves import left_behind
from takeandsplit.options import need_option
from takeandsplit.reckoning import Reckoner
from takeandsplit.rules import is_new_rule, is_rule
from takeandsplit.standings import Standing, is_question_of, names_of
from takeandsplit.things import is_heap, is_name, is_row

PARTS = {"book": 2, "close": 2, "rule": 3, "drop": 3, "put": 3, "move": 4, "watch": 2, "hold": 2, "free": 2}
ASKING = ("watch", "hold", "free")


def is_deed(thing):
    """Whether any object is a word of a deed with as many parts as it has, of whatever kind."""
    if not is_row(thing) or len(thing) == 0 or not isinstance(thing[0], str):
        return False
    return PARTS.get(thing[0], 0) == len(thing)


def need_deed_name(standing, word, thing):
    """Raises BadName for what is no name that the deed may have, InPlay for one to be closed that has a heap."""
    names = names_of(standing.here())
    if word == "book":
        fits = is_name(thing) and thing not in names
    else:
        fits = thing in names
    if not fits:
        raise BadName(thing)
    if word == "close" and thing in [name for name, _ in standing.pairs]:
        raise InPlay(thing)


def need_deed_rule(rules, word, thing):
    """Raises BadRule, HasRule or NoRule for what is no rule that may come, or go."""
    if not is_rule(thing):
        raise BadRule(thing)
    if word == "rule" and not is_new_rule(rules, thing):
        raise HasRule(thing)
    if word == "drop" and tuple(thing) not in rules:
        raise NoRule(thing)


def need_deed_heap(standing, word, name, thing):
    """Raises BadHeap for what is no heap, or none to be moved."""
    if not is_heap(thing) or (word == "move" and (name, thing) not in standing.pairs):
        raise BadHeap(thing)


def kept_question(standing, word, thing):
    """The question as a tuple; raises BadQuestion, IsWatched or NotWatched for what the deed may not have."""
    if not is_question_of(standing.here(), thing):
        raise BadQuestion(thing)
    question = tuple(thing)
    held = dict(standing.asked)
    if word == "free" and question not in held:
        raise NotWatched(question)
    if (word == "watch" and question in held) or (word == "hold" and held.get(question, False)):
        raise IsWatched(question)
    return question


def kept_deed(standing, deed):
    """The deed as a tuple throughout; raises what is to be raised for one that can not be done there."""
    if not is_deed(deed):
        raise BadDeed(deed)
    word = deed[0]
    if word in ASKING:
        return (word, kept_question(standing, word, deed[1]))
    name = deed[1]
    need_deed_name(standing, word, name)
    if word in ("book", "close"):
        return (word, name)
    book = standing.here().book(name)
    if word in ("rule", "drop"):
        need_deed_rule(book.rules(), word, deed[2])
        return (word, name, tuple(deed[2]))
    heap = deed[2]
    need_deed_heap(standing, word, name, heap)
    if word == "put":
        return (word, name, heap)
    need_option(book, heap, deed[3])
    return (word, name, heap, tuple(sorted(deed[3])))


def asked_behind(asked, word, question):
    """The list of what is asked behind a deed that watches, holds or frees."""
    if word == "free":
        return [pair for pair in asked if pair[0] != question]
    if question not in dict(asked):
        return asked + [(question, word == "hold")]
    return [(known, held or known == question) for known, held in asked]


def rules_behind(rules, deed):
    """The list of the rules behind a deed of one of them."""
    if deed[0] == "rule":
        return rules + [deed[2]]
    return [rule for rule in rules if rule != deed[2]]


def house_behind(house, deed):
    """The house behind a deed of its books."""
    word, name = deed[0], deed[1]
    others = [pair for pair in house.books() if pair[0] != name]
    if word == "close":
        return House(others)
    rules = [] if word == "book" else rules_behind(house.book(name).rules(), deed)
    return House(others + [(name, Book(rules))])


def standing_behind(standing, deed):
    """What a session stands at behind a deed that is kept."""
    word = deed[0]
    reckoner, pairs, asked = standing.reckoner, standing.pairs, standing.asked
    if word in ASKING:
        return Standing(reckoner, pairs, asked_behind(asked, word, deed[1]))
    if word == "put":
        return Standing(reckoner, sorted(pairs + [(deed[1], deed[2])]), asked)
    if word == "move":
        return Standing(reckoner, left_behind(pairs, deed[1:]), asked)
    return Standing(Reckoner(house_behind(standing.here(), deed)), pairs, asked)
