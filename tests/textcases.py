"""What tests of one kind of text share."""

import unittest

from takeandsplit.errors import BadText
from tests.samples import first_fault, odd_things, place_of, signs_otherwise


class TextCase(unittest.TestCase):
    """A class below it tells, as static methods, what reads, writes and judges its texts."""

    read = write = fault = None

    def check(self, text, place):
        """The text's first wrong sign is at this place, or it is read, and written with the same lines."""
        self.assertEqual(self.fault(text), place, text)
        if place is None:
            self.assertEqual(sorted(self.write(self.read(text)).split("\n")), sorted(text.split("\n")))
            return
        with self.assertRaises(BadText) as caught:
            self.read(text)
        self.assertEqual((caught.exception.line, caught.exception.sign), place)

    def check_all(self, cases):
        for text, place in cases:
            self.check(text, place)

    def check_no_strings(self):
        for thing in odd_things():
            if not isinstance(thing, str):
                self.check(thing, (0, 0))

    def check_cuts(self, text, may_end):
        """Each cut of the text is wrong one behind its last sign, but where a text may end."""
        for size in range(len(text) + 1):
            cut = text[:size]
            self.check(cut, None if may_end(cut) else place_of(cut, size))

    def check_signs_otherwise(self, texts, signs, goes_on, reads):
        for text in texts:
            for other in signs_otherwise(text, signs):
                self.check(other, first_fault(other, goes_on, reads))

    def check_refused(self, error, things):
        """Each thing is refused by this error, which holds the very thing."""
        for thing in things:
            with self.assertRaises(error) as caught:
                self.write(thing)
            self.assertIs(caught.exception.thing, thing)


def ends_a_line(cut):
    return cut == "" or cut.endswith("\n")
