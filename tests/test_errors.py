"""Point 4: each error is a class of its own, made by place and by name."""

import inspect
import unittest

from takeandsplit import errors
from takeandsplit.errors import HeapError
from tests.samples import odd_things

LISTED = """
BadBook(thing), BadBooks(index), BadClaim(thing), BadDeed(thing), BadEngine(thing), BadForm(thing), BadHeap(thing),
BadHouse(thing), BadLine(thing), BadMove(thing), BadName(thing), BadNumber(thing), BadNumbers(index),
BadOption(thing), BadPairs(index), BadPaper(thing), BadPapers(thing), BadPeriod(thing), BadPosition(index),
BadQuestion(thing), BadRule(thing), BadRules(index), BadSession(thing), BadText(line, sign), BadValues(index),
BadWindow(thing), Grows(), HasGrowing(name), HasRule(rule), InPlay(name), InUse(question), IsWatched(question),
LostHere(), NoCount(thing), NoName(thing), NoRule(thing), NotAlone(), NotGrowing(), NotRight(thing), NotTame(name),
NotWatched(question), NotWon(value), WouldChange(question, why), WrongPaper(name)
"""


def listed():
    """Pairs of an error's name and the names of its parameters."""
    for part in LISTED.replace("\n", " ").split("),"):
        name, params = part.replace(")", "").strip().split("(")
        yield name, [param.strip() for param in params.split(",") if param.strip()]


class ErrorsTest(unittest.TestCase):
    def test_heap_error(self):
        self.assertEqual(HeapError.__bases__, (ValueError,))
        self.assertIsInstance(HeapError(), ValueError)
        with self.assertRaises(HeapError):
            raise HeapError()

    def test_each_is_a_class_of_its_own(self):
        classes = [getattr(errors, name) for name, _ in listed()]
        self.assertEqual(len(set(classes)), 44)
        for made, (name, _) in zip(classes, listed()):
            self.assertEqual(made.__bases__, (HeapError,))
            self.assertEqual(made.__name__, name)
            self.assertEqual(made.__module__, "takeandsplit.errors")

    def test_parameters_by_place_and_by_name(self):
        for name, params in listed():
            made = getattr(errors, name)
            for thing in odd_things():
                things = [thing] + [object() for _ in params[1:]]
                by_place = made(*things[:len(params)])
                by_name = made(**dict(zip(params, things)))
                for error in (by_place, by_name):
                    self.assertIsInstance(error, HeapError)
                    for param, kept in zip(params, things):
                        self.assertIs(getattr(error, param), kept)

    def test_parameters_are_just_these(self):
        for name, params in listed():
            made = getattr(errors, name)
            if params:
                self.assertEqual(list(inspect.signature(made.__init__).parameters)[1:], params)
                with self.assertRaises(TypeError):
                    made()
            else:
                self.assertIsInstance(made(), HeapError)

    def test_raised_and_caught(self):
        for name, params in listed():
            made = getattr(errors, name)
            things = [[index] for index in range(len(params))]
            with self.assertRaises(made) as caught:
                raise made(*things)
            for param, kept in zip(params, things):
                self.assertIs(getattr(caught.exception, param), kept)


if __name__ == "__main__":
    unittest.main()
