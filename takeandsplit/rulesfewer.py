"""Rules of a book without which its values are the same."""

from takeandsplit.books import Book
from takeandsplit.errors import NoRule
from takeandsplit.judging import need_right
from takeandsplit.papers import least_paper, told_of
from takeandsplit.rulelooks import look_beyond
from takeandsplit.rules import is_rule
from takeandsplit.tables import Table


def rules_without(rules, rule):
    """The list of the rules, one less."""
    return [known for known in rules if known != rule]


def changed_without(paper, rules, rule):
    """The least heap that has another value without the rule, and that value, None if there is none."""
    table = Table(Book(rules_without(rules, rule)))
    for heap in range(1, look_beyond(paper, rules)):
        table.reckon_to(heap)
        if table.told[heap] != told_of(paper, heap):
            return (heap, table.told[heap])
    return None


def lost_without(book, paper, rule):
    """The least heap that has another value by the book without one of its rules, and that value, None if alike."""
    need_right(book, paper)
    rules = book.rules()
    if not is_rule(rule) or tuple(rule) not in rules:
        raise NoRule(rule)
    return changed_without(least_paper(paper), rules, tuple(rule))


def needless(book, paper):
    """The list of the rules of the book, in its order, without which it is alike."""
    need_right(book, paper)
    rules = book.rules()
    least = least_paper(paper)
    return [rule for rule in rules if changed_without(least, rules, rule) is None]


def thinned(book, paper):
    """A book of some of the rules that is alike, and has no needless one."""
    need_right(book, paper)
    least = least_paper(paper)
    kept = book.rules()
    # A rule that is needed beside some others is needed all the more beside fewer: so each is tried once.
    for rule in book.rules():
        if changed_without(least, kept, rule) is None:
            kept = rules_without(kept, rule)
    return Book(kept)
