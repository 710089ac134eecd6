"""What the tests of several modules have in common."""

import copy
import unittest

from leftreturn.errors import InvalidPair, InvalidPlaces, Obstructed, ShelfError
from tests import reference


class Case(unittest.TestCase):

    def assert_raises_exactly(self, kind, calls):
        """Each call raises an error of this very class."""
        for call in calls:
            with self.assertRaises(kind) as caught:
                call()
            self.assertIs(type(caught.exception), kind)

    def assert_raises_with(self, kind, field, value, calls):
        """Each call raises an error of this very class, with this value in its field."""
        for call in calls:
            with self.assertRaises(kind) as caught:
                call()
            self.assertIs(type(caught.exception), kind)
            self.assertEqual(getattr(caught.exception, field), value)
            self.assertIs(type(getattr(caught.exception, field)), type(value))

    def assert_left_alone(self, arguments, calls):
        """No call changes the arguments, whether it raises an error or not."""
        before = copy.deepcopy(arguments)
        for call in calls:
            try:
                call()
            except ShelfError:
                pass
            self.assertEqual(arguments, before)

    def assert_pair_errors(self, function):
        """A function of two place lists raises the errors of point 14 in their order."""
        right, obstructed = [0, 1], [1, 0]
        for value in reference.wrong_places():
            with self.subTest(value=value):
                for takes, fills in [(value, right), (value, [7]), (value, value), (right, value),
                                     ([7], value), ([], value), (obstructed, value)]:
                    self.assert_raises_exactly(InvalidPlaces, [lambda: function(takes, fills)])
        for takes, fills in [([0, 1], [0, 1, 2]), ([0, 1, 2], [1, 0]), ((0, 1), [0]), ([0], (1, 0))]:
            with self.subTest(takes=takes, fills=fills):
                self.assert_raises_exactly(InvalidPair, [lambda: function(takes, fills)])
        for takes, fills, reason in [
                (right, obstructed, ("two", 0, 1)), (tuple(right), tuple(obstructed), ("two", 0, 1)),
                ([2, 1, 0], [0, 2, 1], ("three", 0, 1, 2)),
                ([2, 1, 0, 3, 4], [0, 2, 1, 4, 3], ("two", 3, 4))]:
            with self.subTest(takes=takes, fills=fills):
                self.assert_raises_with(
                    Obstructed, "reason", reason, [lambda: function(takes, fills)])
