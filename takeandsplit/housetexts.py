"""Houses as texts."""

from takeandsplit.books import Book
from takeandsplit.booktexts import book_text
from takeandsplit.checks import need_house
from takeandsplit.houses import House
from takeandsplit.namedforms import NamedForm
from takeandsplit.reading import fault_by, read_into
from takeandsplit.ruleforms import RuleForm


class HouseForm(NamedForm):
    """The books of a house, as they are read."""

    def fresh(self):
        """The form of one book."""
        return RuleForm()

    def told_books(self):
        """The list of the pairs of a name and its book that are read."""
        return [(name, Book(form.told_rules())) for name, form in self.forms.items()]


def house_text(house):
    """For each book of the house, by names, a line with its name, and the book's text."""
    need_house(house)
    return "".join([f"book {name}\n" + book_text(book) for name, book in house.books()])


def read_house(text):
    """The house of a text, its books in whatever order, each once."""
    form = HouseForm()
    read_into(form, text)
    return House(form.told_books())


def house_fault(text):
    """The place of the first wrong sign of any object as a house's text, None if there is none."""
    return fault_by(HouseForm(), text)
