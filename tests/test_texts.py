"""Tests of leftreturn.texts: point 30, and points 2, 3, 5, 6, 10 and 11 for this module."""

import itertools
import random
import unittest

from leftreturn import texts
from leftreturn.errors import InvalidPlaces, InvalidSchedule, InvalidSize, InvalidText
from leftreturn.texts import format_places, format_schedule, parse_places, parse_schedule
from tests import cases, reference

# Words that are no number, whatever they stand for.
NO_NUMBERS = [
    "", "x", "-1", "+1", "-0", "+0", "00", "01", "007", "0x1", "1.", "1.0", "1e3", "1_0", "0b1", "1,", ",1",
    "1\n", "\n1", "1\t", "\t", "\t1", "--1", "ten", "None", "1r", "(1)", "\u00b2", "\u0661", "\uff11", "1\u0660",
    "\u00bd", "\u2167", "0" * 31, "0" * 5000, "-", "~", "'1'",
]
BACKWARDS = list(range(199, -1, -1))


def turns(book, count):
    """Return a schedule that takes a book and returns it, as long as told."""
    return [("take" if at % 2 == 0 else "return", book) for at in range(count)]


def turns_text(book, count):
    """Return the text of such a schedule."""
    return " ".join([("t" if at % 2 == 0 else "r") + str(book) for at in range(count)])


class TextsTest(cases.Case):

    def assert_wrong_places(self, text, index):
        self.assert_raises_with(InvalidText, "index", index, [lambda: parse_places(text)])

    def assert_wrong_schedule(self, size, text, index):
        self.assert_raises_with(InvalidText, "index", index, [lambda: parse_schedule(size, text)])

    def assert_places(self, places, text):
        self.assertEqual(format_places(places), text)
        self.assertEqual(format_places(tuple(places)), text)
        self.assertEqual(parse_places(text), places)
        self.assertIs(type(parse_places(text)), list)

    def assert_schedule(self, size, schedule, text):
        self.assertEqual(format_schedule(size, schedule), text)
        self.assertEqual(parse_schedule(size, text), schedule)
        self.assertIs(type(parse_schedule(size, text)), list)
        self.assertEqual({type(operation) for operation in parse_schedule(size, text)} - {tuple}, set())

    def test_functions_are_defined_here(self):
        for name in ["format_places", "format_schedule", "parse_places", "parse_schedule"]:
            self.assertEqual(getattr(texts, name).__module__, "leftreturn.texts")

    def test_examples(self):
        self.assertEqual(format_schedule(3, [("take", 2), ("return", 2)]), "t2 r2")
        self.assert_wrong_places("3 1 1", 2)

    def test_texts_of_places(self):
        self.assert_places([], "")
        self.assert_places([0], "0")
        self.assert_places([2, 0, 3, 1], "2 0 3 1")
        self.assert_places([10, 100, 1, 0, 11], "10 100 1 0 11")
        self.assert_places([10 ** 30, 10 ** 30 - 1, 7], "1" + 30 * "0" + " " + 30 * "9" + " 7")

    def test_200_and_201_places(self):
        self.assert_places(BACKWARDS, " ".join([str(place) for place in BACKWARDS]))
        most = [10 ** 30 - place for place in range(200)]
        self.assert_places(most, " ".join([str(place) for place in most]))
        text = " ".join([str(place) for place in range(201)])
        self.assert_wrong_places(text, None)
        # The number of words decides before the words do.
        self.assert_wrong_places("x " + text, None)
        self.assert_wrong_places(" " * 200, None)
        self.assert_wrong_places(" " * 199, 0)
        self.assert_wrong_places(format_places(BACKWARDS) + " ", None)
        self.assert_wrong_places(format_places(BACKWARDS[:199]) + " ", 199)
        self.assert_wrong_places(format_places(BACKWARDS[:199]) + " 199", 199)
        self.assert_wrong_places("0 " * 200 + "0", None)
        self.assert_wrong_places("0 " * 199 + "0", 1)

    def test_invalid_places(self):
        for value in reference.wrong_places():
            with self.subTest(value=value):
                self.assert_raises_exactly(InvalidPlaces, [lambda: format_places(value)])

    def test_values_that_are_no_strings(self):
        for value in reference.any_items() + [0, 1, [0], (0,), ["0"], b"0", b"t0", bytearray(b"0"), [("take", 0)]]:
            if not isinstance(value, str):
                with self.subTest(value=value):
                    self.assert_wrong_places(value, None)
                    self.assert_wrong_schedule(3, value, None)

    def test_words_that_are_no_places(self):
        for word in NO_NUMBERS + [str(10 ** 30 + 1), str(10 ** 31), "9" * 40, "1" * 4400, "9" * 5000, "t1", "r1"]:
            with self.subTest(word=word[:50]):
                if word != "":
                    self.assert_wrong_places(word, 0)
                self.assert_wrong_places("5 " + word, 1)
                self.assert_wrong_places(word + " 5", 0)
                self.assert_wrong_places("5 6 " + word + " 5", 2)
                self.assert_wrong_places("5 5 " + word, 1)

    def test_spaces_between_places(self):
        for text, index in [
                (" ", 0), ("  ", 0), (" 1", 0), ("1 ", 1), ("1  2", 1), ("1 2  ", 2), ("1 2  3", 2), ("1\n2", 0),
                ("1\t2", 0), ("1,2", 0), ("1, 2", 0), ("\n", 0), ("1 2\n", 1), ("1\u00a02", 0), ("1 \u20092", 1)]:
            with self.subTest(text=text):
                self.assert_wrong_places(text, index)

    def test_places_that_occur_twice(self):
        for text, index in [("0 0", 1), ("0 1 0 1", 2), ("5 4 3 3", 3), ("7 7 7", 1), ("1 1 x", 1), ("1 x 1", 1)]:
            self.assert_wrong_places(text, index)
        twice = "1" + 30 * "0"
        self.assert_wrong_places(twice + " 0 " + twice, 2)

    def test_texts_of_schedules(self):
        self.assert_schedule(1, [], "")
        self.assert_schedule(200, [], "")
        self.assert_schedule(1, [("take", 0), ("return", 0)], "t0 r0")
        self.assert_schedule(4, [("take", 2), ("take", 0), ("return", 2), ("take", 0)], "t2 t0 r2 t0")
        self.assert_schedule(200, [("take", 199), ("take", 10), ("return", 199)], "t199 t10 r199")
        for one, other in itertools.product([list, tuple], repeat=2):
            self.assertEqual(format_schedule(3, one([other(["take", 2]), one(["return", 2])])), "t2 r2")

    def test_400_and_401_words(self):
        self.assert_schedule(1, turns(0, 400), turns_text(0, 400))
        self.assert_schedule(200, turns(199, 400), turns_text(199, 400))
        self.assert_schedule(200, turns(199, 399), turns_text(199, 399))
        self.assert_wrong_schedule(1, turns_text(0, 401), None)
        self.assert_wrong_schedule(1, "x " + turns_text(0, 400), None)
        self.assert_wrong_schedule(1, turns_text(0, 400) + " ", None)
        self.assert_wrong_schedule(1, turns_text(0, 399) + " ", 399)
        self.assert_wrong_schedule(1, turns_text(0, 399) + " t0", 399)
        self.assert_wrong_schedule(1, " " * 400, None)
        self.assert_wrong_schedule(1, " " * 399, 0)
        takes = [("take", place) for place in BACKWARDS]
        everything = takes + [("return", book) for book in BACKWARDS]
        words = ["t" + str(place) for place in BACKWARDS] + ["r" + str(book) for book in BACKWARDS]
        self.assert_schedule(200, everything, " ".join(words))

    def test_invalid_sizes_come_first(self):
        for size in reference.any_items() + [0, 201, [1], (3,), 10 ** 30]:
            with self.subTest(size=size):
                for text in ["", "t0", "x", None, 7, "t0 " * 500]:
                    self.assert_raises_exactly(InvalidSize, [lambda: parse_schedule(size, text)])
                for schedule in [[], [("take", 0)], None, [None], [None] * 401]:
                    self.assert_raises_exactly(InvalidSize, [lambda: format_schedule(size, schedule)])

    def test_invalid_schedules(self):
        for value in reference.any_values() + ["", "t0", 0]:
            self.assert_raises_with(InvalidSchedule, "index", None, [lambda: format_schedule(3, value)])
        for item in reference.any_items() + [
                0, "t1", ("t", 1), ("take",), ("take", 0, 0), ("put", 0), ("take", "0"), ("take", True), ("take", 3),
                ("take", -1), ("return", 1), ("return", False), ("take", 2)]:
            with self.subTest(item=item):
                self.assert_raises_with(InvalidSchedule, "index", 1, [
                    lambda: format_schedule(3, [("take", 2), item]),
                    lambda: format_schedule(3, (["take", 2], item, None))])
        self.assert_raises_with(InvalidSchedule, "index", None, [
            lambda: format_schedule(1, turns(0, 401)), lambda: format_schedule(1, [None] * 401)])

    def test_words_that_are_no_operations(self):
        numbers = ["t" + word for word in NO_NUMBERS] + ["r" + word for word in NO_NUMBERS]
        for word in numbers + NO_NUMBERS + [
                "0", "1", "t", "r", "T1", "R0", "p1", "tt1", "tr1", "rt1", "take1", "take", "return", "1t", "t 1",
                "t1r0", "t1,", ",t1", "t1t1", "\u01841", "t" + "1" * 5000]:
            with self.subTest(word=word[:50]):
                if word != "":
                    self.assert_wrong_schedule(3, word, 0)
                self.assert_wrong_schedule(3, "t0 " + word, 1)
                self.assert_wrong_schedule(3, word + " t0", 0)
                self.assert_wrong_schedule(3, "t0 r0 " + word + " r0", 2)
                self.assert_wrong_schedule(3, "t0 t0 " + word, 1)

    def test_spaces_between_operations(self):
        for text, index in [
                (" ", 0), ("  ", 0), (" t1", 0), ("t1 ", 1), ("t1  r1", 1), ("t1 r1  ", 2), ("t1\nr1", 0),
                ("t1\tr1", 0), ("t1,r1", 0), ("t1, r1", 0), ("t1r1", 0), ("t1 r1\n", 1), ("t 1", 0)]:
            with self.subTest(text=text):
                self.assert_wrong_schedule(3, text, index)

    def test_operations_that_are_not_possible(self):
        for size, text, index in [
                (3, "t3", 0), (1, "t1", 0), (3, "t0 t0", 1), (3, "r0", 0), (3, "t1 r0", 1), (3, "t1 r3", 1),
                (3, "t1 r1 r1", 2), (2, "t1 t0 r1 t1", 3), (200, "t200", 0), (200, "t199 r199 t200", 2),
                (3, "t0 r1 x", 1), (3, "t0 x r1", 1), (3, "t" + "9" * 40, 0), (3, "t1 r" + "9" * 4400, 1)]:
            with self.subTest(text=text[:50]):
                self.assert_wrong_schedule(size, text, index)
        self.assertEqual(parse_schedule(2, "t1 t0 r1 t0"), [("take", 1), ("take", 0), ("return", 1), ("take", 0)])

    def test_results_are_new(self):
        for call in [lambda: parse_places("1 2"), lambda: parse_schedule(3, "t1 r1")]:
            first = call()
            again = list(first)
            first.append("mine")
            self.assertEqual(call(), again)

    def test_arguments_are_left_as_they_were(self):
        for arguments in [[[2, 0]], [[2, 2]], [[["take", 1], ["return", 1]]], [[["take", 1], ["take", 1]]]]:
            self.assert_left_alone(arguments, [
                lambda: format_places(arguments[0]), lambda: format_schedule(3, arguments[0])])

    def test_all_short_texts(self):
        words = ["t0", "t1", "t2", "r0", "r1", "", "t01", "x"]
        for length in range(1, 5):
            for chosen in itertools.product(words, repeat=length):
                if chosen == ("",):
                    continue
                operations = []
                index = None
                for at, word in enumerate(chosen):
                    if word in ("t0", "t1", "t2", "r0", "r1"):
                        operations.append(("take" if word[0] == "t" else "return", int(word[1])))
                    if len(operations) <= at or reference.run_operations(2, operations)[0] is not None:
                        index = at
                        break
                text = " ".join(chosen)
                if index is None:
                    self.assert_schedule(2, operations, text)
                else:
                    self.assert_wrong_schedule(2, text, index)

    def test_random_texts_of_places(self):
        chance = random.Random(30)
        for _ in range(300):
            words = [str(chance.choice([chance.randrange(12), chance.randrange(10 ** 30)]))
                     for _ in range(chance.randrange(1, 9))]
            twice = [at for at in range(len(words)) if words[at] in words[:at]]
            text = " ".join(words)
            if twice:
                self.assert_wrong_places(text, twice[0])
            else:
                self.assert_places([int(word) for word in words], text)


if __name__ == "__main__":
    unittest.main()
