"""Books: what may be taken of a heap, and what is left of it."""

from takeandsplit.errors import BadRules
from takeandsplit.rules import rule_line, rules_fault


class Book:
    """A book of unlike rules, kept as their lines ascend."""

    def __init__(self, rules):
        index = rules_fault(rules)
        if index is not None:
            raise BadRules(index)
        self._rules = sorted([tuple(rule) for rule in rules], key=rule_line)

    def rules(self):
        """The list of the rules, as their lines ascend."""
        return list(self._rules)

    def __eq__(self, other):
        return isinstance(other, Book) and self._rules == other._rules
