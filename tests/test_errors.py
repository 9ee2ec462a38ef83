"""Point 6, and the section of watchfloor/errors.py in the interface."""

import unittest

from tests.support import WatchTest
from watchfloor import errors
from watchfloor.errors import BadConfiguration, BadExpression, BadLine, BadSetup, BadSteps
from watchfloor.errors import ConflictingSamples, Damaged, InvalidArgument, WatchError
from watchfloor.matching import labels_of
from watchfloor.parsing import parse
from watchfloor.samples import view_of
from watchfloor.setup import setup
from watchfloor.steps import from_steps

NAMES = (
    "InvalidArgument", "BadExpression", "BadSteps", "BadSetup", "ConflictingSamples", "Damaged", "NotABlock",
    "NotLater", "TooLate", "TooManyTimes", "TooManySamples", "PeriodTooLong", "TooFewChannels", "NotReached",
    "BadLine", "BadConfiguration",
)


class ClassesTest(WatchTest):

    def test_base_class_is_a_value_error(self):
        self.assertTrue(issubclass(WatchError, ValueError))
        self.assertEqual(WatchError.__module__, "watchfloor.errors")

    def test_all_are_under_the_base_class_and_none_under_another(self):
        self.assertEqual(len(NAMES), 16)
        for name in NAMES:
            found = getattr(errors, name)
            self.assertTrue(issubclass(found, WatchError), name)
            self.assertEqual(found.__module__, "watchfloor.errors")
            self.assertEqual(found.__name__, name)
            for other in NAMES:
                if other != name:
                    self.assertFalse(issubclass(found, getattr(errors, other)), (name, other))

    def test_one_handler_catches_all(self):
        calls = (
            lambda: labels_of([("", "a")]),
            lambda: view_of([((), 1, 1), ((), 1, 2)]),
            lambda: parse(""),
            lambda: from_steps([]),
            lambda: setup(week=0, people=[], schedules=[], policies=[], routes=[]),
        )
        for call in calls:
            with self.assertRaises(WatchError):
                call()
            with self.assertRaises(ValueError):
                call()


class AttributesTest(WatchTest):

    def test_attributes_of_errors_that_are_raised(self):
        self.refused(InvalidArgument, {"name": "value"}, labels_of, [("a", "")])
        self.refused(BadExpression, {"fault": "end", "place": 2}, parse, "a+")
        self.refused(BadSteps, {"place": 1}, from_steps, [("number", 1), ("binary", "+")])
        self.refused(ConflictingSamples, {"place": 1}, view_of, [((), 1, 1), ((), 1, 2)])
        self.refused(BadSetup, {"part": "week", "place": 0}, setup,
                     week=0, people=[], schedules=[], policies=[], routes=[])

    def test_attributes_are_set_when_an_error_is_made(self):
        self.assertEqual(InvalidArgument("last").name, "last")
        self.assertEqual(BadExpression("deep", 7).fault, "deep")
        self.assertEqual(BadExpression("deep", 7).place, 7)
        self.assertEqual(BadSteps(3).place, 3)
        self.assertEqual(ConflictingSamples(4).place, 4)
        self.assertEqual(Damaged(5).place, 5)
        self.assertEqual(BadSetup("store", 6).part, "store")
        self.assertEqual(BadSetup("store", 6).place, 6)
        self.assertEqual(BadLine(8).line, 8)
        self.assertEqual(BadConfiguration([(1, "name")]).problems, [(1, "name")])
        self.assertIsInstance(BadConfiguration([(1, "name")]).problems, list)


if __name__ == "__main__":
    unittest.main()
