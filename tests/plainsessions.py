"""Sessions by the words of section 11, as plainly as can be: states are (books, heaps, asked), never changed."""

from takeandsplit.rules import is_rule, rules_fault
from tests.samples import MOST_HEAP, odd_things, plain_options, plain_values, value_of

EMPTY_STATE = ({}, [], [])
SIZES = {"book": 2, "close": 2, "rule": 3, "drop": 3, "put": 3, "move": 4, "watch": 2, "hold": 2, "free": 2}
WORDS = ("take to or more leave none one two when of book begin period gain value win lose move watch hold").split()


def is_plain_name(thing):
    return (type(thing) is str and 1 <= len(thing) <= 8 and thing[0].isalpha() and thing.isascii() and thing.isalnum()
            and thing == thing.lower() and thing not in WORDS)


def is_plain_heap(thing):
    return type(thing) is int and 1 <= thing <= MOST_HEAP


def is_plain_question(state, thing):
    if type(thing) not in (list, tuple):
        return False
    if len(thing) == 1:
        return thing[0] in ("wins", "moves", "winning") and type(thing[0]) is str
    return len(thing) == 3 and thing[0] == "value" and type(thing[1]) is str and thing[1] in state[0] and is_plain_heap(thing[2])


def plain_worth(books, heaps):
    total = 0
    for name, heap in heaps:
        total ^= plain_values(books[name], heap)[heap]
    return total


def moves_in(state):
    """All moves, ascending."""
    books, heaps, _ = state
    return [(name, heap, option) for name, heap in sorted(set(heaps)) for option in plain_options(books[name], heap)]


def left_in(heaps, move):
    name, heap, option = move
    rest = list(heaps)
    rest.remove((name, heap))
    return sorted(rest + [(name, left) for left in option])


def winning_in(state):
    books, heaps, _ = state
    told = {name: plain_values(books[name], max([heap for known, heap in heaps if known == name], default=0)) for name in books}
    total = 0
    for name, heap in heaps:
        total ^= told[name][heap]
    return [move for move in moves_in(state)
            if total ^ told[move[0]][move[1]] ^ value_of(told[move[0]], move[2]) == 0]


def plain_answer(state, question):
    if question[0] == "wins":
        return plain_worth(state[0], state[1]) != 0
    if question[0] == "moves":
        return len(moves_in(state))
    if question[0] == "winning":
        return len(winning_in(state))
    return plain_values(state[0][question[1]], question[2])[question[2]]


class Refused(Exception):
    """What a deed is refused by: the error's name, and a dict of what it holds."""

    def __init__(self, kind, **held):
        Exception.__init__(self, kind)
        self.kind = kind
        self.held = held


def judge_parts(state, deed):
    """Raises what is due of the deed's parts, up to the option."""
    books, heaps, _ = state
    word, name = deed[0], deed[1]
    there = type(name) is str and name in books
    if not (is_plain_name(name) and not there if word == "book" else there):
        raise Refused("BadName", thing=name)
    if word == "close" and any(known == name for known, _ in heaps):
        raise Refused("InPlay", name=name)
    if word in ("rule", "drop"):
        rule = deed[2]
        if not is_rule(rule):
            raise Refused("BadRule", thing=rule)
        if word == "rule" and rules_fault(books[name] + [rule]) is not None:
            raise Refused("HasRule", rule=rule)
        if word == "drop" and tuple(rule) not in books[name]:
            raise Refused("NoRule", thing=rule)
    if word in ("put", "move"):
        if not is_plain_heap(deed[2]) or (word == "move" and (name, deed[2]) not in heaps):
            raise Refused("BadHeap", thing=deed[2])
    if word == "move":
        option = deed[3]
        if (type(option) not in (list, tuple) or not all(map(is_plain_heap, option))
                or sorted(option) not in plain_options(books[name], deed[2])):
            raise Refused("BadOption", thing=option)


def judge_question(state, word, thing):
    if not is_plain_question(state, thing):
        raise Refused("BadQuestion", thing=thing)
    held = dict(state[2])
    question = tuple(thing)
    if word == "free" and question not in held:
        raise Refused("NotWatched", question=question)
    if (word == "watch" and question in held) or (word == "hold" and held.get(question)):
        raise Refused("IsWatched", question=question)


def made(state, deed):
    """The state behind a deed that may be done."""
    books, heaps, asked = dict(state[0]), list(state[1]), list(state[2])
    word = deed[0]
    if word == "book":
        books[deed[1]] = []
    elif word == "close":
        del books[deed[1]]
    elif word == "rule":
        books[deed[1]] = books[deed[1]] + [deed[2]]
    elif word == "drop":
        books[deed[1]] = [rule for rule in books[deed[1]] if rule != deed[2]]
    elif word == "put":
        heaps = sorted(heaps + [(deed[1], deed[2])])
    elif word == "move":
        heaps = left_in(heaps, deed[1:])
    elif word == "free":
        asked = [pair for pair in asked if pair[0] != deed[1]]
    elif deed[1] in dict(asked):
        asked = [(question, held or question == deed[1]) for question, held in asked]
    else:
        asked.append((deed[1], word == "hold"))
    return (books, heaps, asked)


def kept(deed):
    """The deed as a tuple throughout, its option ascending."""
    parts = [tuple(part) if type(part) in (list, tuple) else part for part in deed]
    if deed[0] == "move":
        parts[3] = tuple(sorted(parts[3]))
    return tuple(parts)


def judged(state, deed, would=False):
    """(deed as kept, state behind, what is told) of a deed, or raises Refused."""
    if (type(deed) not in (list, tuple) or len(deed) == 0 or type(deed[0]) is not str or deed[0] not in SIZES
            or len(deed) != SIZES[deed[0]]):
        raise Refused("BadDeed", thing=deed)
    if deed[0] in ("watch", "hold", "free"):
        judge_question(state, deed[0], deed[1])
    else:
        judge_parts(state, deed)
    behind = made(state, kept(deed))
    for question, _ in state[2]:
        if not is_plain_question(behind, question):
            raise Refused("InUse", question=question)
    told = [(question, plain_answer(state, question), plain_answer(behind, question)) for question, _ in state[2]]
    told = [row for row in told if row[1] != row[2]]
    for row in told:
        if dict(state[2])[row[0]] and not would:
            raise Refused("WouldChange", question=row[0], behind=behind, answers=row[1:])
    return (kept(deed), behind, told)


def odd_parts():
    """Things of every kind, but no heap so great that no plain reckoning ends."""
    return [thing for thing in odd_things() if type(thing) is not int or thing != MOST_HEAP]


def random_question(rng, names):
    kind = rng.randrange(5)
    if kind < 3:
        return rng.choice([tuple, list])([("wins",), ("moves",), ("winning",)][kind])
    return rng.choice([tuple, list])(("value", rng.choice(names + ["zz"]), rng.randint(1, 9)))


def random_small_rule(rng, rules):
    if rules and rng.random() < 0.4:
        return rng.choice(rules)
    left = rng.choice(["none", "one", "one", "two"])
    low = rng.randint(0 if left == "two" else 1, 3)
    high = rng.choice([low, low + 1, None]) if left != "two" and rng.random() < 0.5 else low
    rest, modulus = (0, 1) if high is None or rng.random() < 0.6 else rng.choice([(0, 2), (1, 2), (1, 3)])
    return rng.choice([tuple, list])((low, high, left, rest, modulus))


def random_deed(rng, state, odd):
    """A deed that may be done, more often than not; at times one of its parts is an odd thing."""
    books, heaps, asked = state
    names = sorted(books) or ["p"]
    word = rng.choice(["book", "hold", "free", "close"] + ["rule", "drop", "watch"] * 2 + ["put"] * 3 + ["move"] * (6 if heaps else 1))
    if not books:
        word = "book"
    name = rng.choice(names)
    deed = [word, name]
    if word == "book":
        deed[1] = rng.choice(["p", "q", "r1", "x"])
    elif word in ("rule", "drop"):
        deed.append(random_small_rule(rng, books.get(name, []) if word == "drop" or rng.random() < 0.2 else []))
    elif word == "put":
        deed.append(rng.randint(1, 9 if len(heaps) < 4 else 3))
    elif word == "move":
        moves = moves_in(state)
        if moves:
            deed = ["move"] + [part[::-1] if type(part) is list and rng.random() < 0.5 else part for part in rng.choice(moves)]
            if rng.random() < 0.05:
                deed[3] = rng.choice([[1], [], (9, 9), [1, 1]])
        else:
            deed += [rng.randint(1, 9), []]
    elif word != "close":
        deed[1] = rng.choice([question for question, _ in asked]) if asked and rng.random() < 0.5 else random_question(rng, names)
    if rng.random() < 0.07:
        deed[rng.randrange(len(deed))] = rng.choice(odd)
    if rng.random() < 0.03:
        deed = deed[:-1] if rng.random() < 0.5 else deed + [1]
    return rng.choice([tuple, list])(deed)
