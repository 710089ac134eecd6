"""Tests of leftreturn.errors: points 3 and the interface's row."""

import unittest

from leftreturn import errors

WITH_TEXT = [
    "InvalidSize", "InvalidPlaces", "InvalidPair", "InvalidPattern", "InvalidOrder", "InvalidNumber",
    "InvalidFacts", "InvalidOffsets", "InvalidWishes", "InvalidPlace", "InvalidBook", "NothingToUndo",
    "InvalidCommand",
]
WITH_FIELD = [
    ("InvalidSchedule", "index"), ("Obstructed", "reason"), ("Contradiction", "indices"),
    ("TooMany", "count"), ("InvalidText", "index"),
]


class ErrorsTest(unittest.TestCase):

    def test_shelf_error_derives_from_value_error(self):
        self.assertEqual(errors.ShelfError.__bases__, (ValueError,))
        self.assertEqual(errors.ShelfError.__module__, "leftreturn.errors")
        self.assertIsInstance(errors.ShelfError("a text"), ValueError)

    def test_each_error_derives_directly_from_shelf_error(self):
        for name in WITH_TEXT + [name for name, _ in WITH_FIELD]:
            with self.subTest(name=name):
                kind = getattr(errors, name)
                self.assertEqual(kind.__name__, name)
                self.assertEqual(kind.__bases__, (errors.ShelfError,))
                self.assertEqual(kind.__module__, "leftreturn.errors")

    def test_errors_made_with_one_string(self):
        for name in WITH_TEXT:
            with self.subTest(name=name):
                kind = getattr(errors, name)
                with self.assertRaises(errors.ShelfError) as caught:
                    raise kind("a text")
                self.assertIs(type(caught.exception), kind)
                self.assertEqual(str(caught.exception), "a text")

    def test_errors_made_with_their_field(self):
        for name, field in WITH_FIELD:
            for value in [0, 7, None, (0,), (1, 2), ("two", 0, 1), [1, [2]], "text", 10 ** 5000]:
                with self.subTest(name=name):
                    kind = getattr(errors, name)
                    with self.assertRaises(ValueError) as caught:
                        raise kind(value)
                    self.assertIs(type(caught.exception), kind)
                    self.assertIs(getattr(caught.exception, field), value)
                    self.assertIsInstance(str(caught.exception), str)

    def test_errors_with_a_field_need_it(self):
        for name, _ in WITH_FIELD:
            with self.subTest(name=name), self.assertRaises(TypeError):
                getattr(errors, name)()

    def test_fields_belong_to_each_error(self):
        first, second = errors.InvalidSchedule(1), errors.InvalidSchedule(None)
        self.assertEqual((first.index, second.index), (1, None))


if __name__ == "__main__":
    unittest.main()
