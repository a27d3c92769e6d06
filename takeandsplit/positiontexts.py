"""Positions and claims as texts."""

from takeandsplit.errors import BadForm
from takeandsplit.positionforms import ClaimForm, PositionForm
from takeandsplit.reading import fault_by, read_into
from takeandsplit.things import is_heap, is_leaving, is_name, is_pair, is_row


def is_position_form(thing):
    """Whether it is a list of pairs of a name and a heap, whatever house there is."""
    return is_row(thing) and all([is_pair(part) for part in thing])


def is_move_form(thing):
    """Whether it is a triple of a name, a heap and a list of heaps left of it, whatever book there is."""
    if not is_row(thing) or len(thing) != 3:
        return False
    return is_name(thing[0]) and is_heap(thing[1]) and is_leaving(thing[2])


def is_claim_form(thing):
    """Whether it is a triple of a position, a word, and a move if the word asks for one."""
    if not is_row(thing) or len(thing) != 3 or not is_position_form(thing[0]):
        return False
    word, move = thing[1], thing[2]
    if word == "move":
        return is_move_form(move)
    return word in ("win", "lose") and move is None


def position_text(position):
    """A line for each pair of the position, ascending."""
    if not is_position_form(position):
        raise BadForm(position)
    pairs = sorted([tuple(pair) for pair in position])
    return "".join([f"{name} {heap}\n" for name, heap in pairs])


def read_position(text):
    """The position of a text, its lines in whatever order."""
    form = PositionForm()
    read_into(form, text)
    return sorted(form.pairs)


def position_fault(text):
    """The place of the first wrong sign of any object as a position's text, None if there is none."""
    return fault_by(PositionForm(), text)


def move_line(move):
    """What a claim says of a move."""
    name, heap, option = move
    left = ", ".join([str(part) for part in option]) if len(option) > 0 else "none"
    return f"move {name} {heap} to {left}"


def claim_text(claim):
    """The lines of the claim's position, then what it says."""
    if not is_claim_form(claim):
        raise BadForm(claim)
    position, word, move = claim
    said = word if move is None else move_line(move)
    return position_text(position) + said + "\n"


def read_claim(text):
    """The claim of a text, its position's lines in whatever order."""
    form = ClaimForm()
    read_into(form, text)
    word, move = form.said
    return (sorted(form.pairs), word, move)


def claim_fault(text):
    """The place of the first wrong sign of any object as a claim's text, None if there is none."""
    return fault_by(ClaimForm(), text)
