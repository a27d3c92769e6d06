"""Books as texts."""

from takeandsplit.books import Book
from takeandsplit.checks import need_book
from takeandsplit.reading import fault_by, place_behind, read_into
from takeandsplit.ruleforms import RuleForm
from takeandsplit.rules import rule_line


def book_text(book):
    """A line for each rule of the book, ascending."""
    need_book(book)
    return "".join([rule_line(rule) + "\n" for rule in book.rules()])


def read_book(text):
    """The book of a text, its rules in whatever order, each once."""
    form = RuleForm()
    read_into(form, text)
    return Book(form.told_rules())


def book_fault(text):
    """The place of the first wrong sign of any object as a book's text, None if there is none."""
    return fault_by(RuleForm(), text)


def book_goes_on(text):
    """A book's text that begins with this string, None if there is none."""
    form = RuleForm()
    fault = fault_by(form, text)
    if fault is None:
        return text
    if not isinstance(text, str) or fault != place_behind(text):
        return None
    start = text.split("\n")[-1]
    line = rule_line(form.found(start)) + "\n"
    return text + line[len(start):]
