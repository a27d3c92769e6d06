"""Rules that change nothing where a book has them, too."""

from takeandsplit.books import Book
from takeandsplit.checks import need_number
from takeandsplit.errors import BadRule
from takeandsplit.finding import Finder, kinds_with
from takeandsplit.judging import need_right
from takeandsplit.papers import least_paper
from takeandsplit.rulelooks import look_beyond
from takeandsplit.rules import LEFTS, is_new_rule, is_rule


def changed_by(paper, rule):
    """The least heap of which the rule leaves an option with the heap's own value, with the first one, or None."""
    finder = Finder(Book([rule]), paper)
    for heap in range(1, look_beyond(paper, [rule])):
        option = finder.choices(heap, kinds_with(finder.heap_value(heap))).least()
        if option is not None:
            return (heap, option)
    return None


def idle(book, paper, rule):
    """None if the book with this rule more is alike, else the least heap that changes, and by which option."""
    need_right(book, paper)
    rules = book.rules()
    if is_rule(rule) and tuple(rule) in rules:
        return None
    if not is_new_rule(rules, rule):
        raise BadRule(rule)
    return changed_by(least_paper(paper), tuple(rule))


def idle_rules(book, paper, most):
    """The ascending list of the idle rules that take one number alone, to most, of all heaps, and are not its own."""
    need_right(book, paper)
    need_number(most)
    rules = book.rules()
    least = least_paper(paper)
    tried = [(number, number, left, 0, 1) for number in range(most + 1) for left in LEFTS]
    return [rule for rule in tried if is_new_rule(rules, rule) and changed_by(least, rule) is None]
