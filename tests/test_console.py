"""Tests of leftreturn.console: point 31, and points 2, 3, 29 and 30 for this module."""

import random
import unittest

from leftreturn.console import Console
from leftreturn.errors import InvalidBook, InvalidCommand, InvalidPlace, InvalidSize, NothingToUndo
from leftreturn.live import LiveShelf
from leftreturn.texts import parse_schedule
from tests import cases, reference
from tests.live_model import Model

QUESTIONS = ["books", "gaps", "out", "schedule", "size"]


def answers(console):
    """Return the answers of all lines that change nothing."""
    return [console.execute(line) for line in QUESTIONS]


def text_of(values, empty):
    """Return values, separated by single spaces, or another text if there are none."""
    return " ".join([str(value) for value in values]) or empty


def expected_answers(model):
    """Return the answers of all lines that change nothing, by the definitions."""
    books = ["-" if book is None else book for book in model.books()]
    words = [word[0] + str(number) for word, number in model.operations]
    return [text_of(books, ""), text_of(model.gaps(), "none"), text_of(model.out(), "none"),
            text_of(words, "none"), str(model.size)]


class ConsoleTest(cases.Case):

    def assert_unchanged_by(self, console, kind, lines):
        """Each line raises an error of this very class, and nothing changes."""
        before = answers(console)
        for line in lines:
            with self.subTest(line=line):
                self.assert_raises_exactly(kind, [lambda: console.execute(line)])
                self.assertEqual(answers(console), before)

    def test_members_are_defined_in_the_class(self):
        self.assertEqual(Console.__module__, "leftreturn.console")
        self.assertIn("execute", vars(Console))
        self.assertIn("__init__", vars(Console))

    def test_example(self):
        console = Console(2)
        self.assertEqual(
            [console.execute("take 1"), console.execute("take 0"), console.execute("return 1"),
             console.execute("books"), console.execute("out")], ["1", "0", "0", "1 -", "0"])

    def test_beginning(self):
        self.assertEqual(answers(Console(1)), ["0", "none", "none", "none", "1"])
        self.assertEqual(answers(Console(3)), ["0 1 2", "none", "none", "none", "3"])
        self.assertEqual(
            answers(Console(200)), [" ".join(map(str, range(200))), "none", "none", "none", "200"])

    def test_invalid_sizes(self):
        for size in reference.any_items() + [0, 201, [1], (3,), 10 ** 30, LiveShelf(3)]:
            with self.subTest(size=size):
                self.assert_raises_exactly(InvalidSize, [lambda: Console(size)])

    def test_answers(self):
        console = Console(12)
        self.assertEqual([console.execute("take 11"), console.execute("take 0")], ["11", "0"])
        self.assertEqual(
            answers(console), ["- 1 2 3 4 5 6 7 8 9 10 -", "0 11", "11 0", "t11 t0", "12"])
        self.assertEqual(console.execute("return 11"), "0")
        # The answer is the book at the place, and the place of the book.
        self.assertEqual([console.execute("take 0"), console.execute("take 5")], ["11", "5"])
        self.assertEqual([console.execute("return 11"), console.execute("return 0")], ["0", "5"])
        self.assertEqual(
            answers(console), ["11 1 2 3 4 0 6 7 8 9 10 -", "11", "5", "t11 t0 r11 t0 t5 r11 r0", "12"])
        for answer in answers(console):
            self.assertIs(type(answer), str)

    def test_undo(self):
        console = Console(3)
        self.assert_unchanged_by(console, NothingToUndo, ["undo"])
        for line in ["take 2", "take 0", "return 2"]:
            console.execute(line)
        self.assertEqual(answers(console), ["2 1 -", "2", "0", "t2 t0 r2", "3"])
        self.assertEqual(console.execute("undo"), "ok")
        self.assertEqual(answers(console), ["- 1 -", "0 2", "2 0", "t2 t0", "3"])
        self.assertEqual([console.execute("undo"), console.execute("undo")], ["ok", "ok"])
        self.assertEqual(answers(console), answers(Console(3)))
        self.assert_unchanged_by(console, NothingToUndo, ["undo", "undo"])

    def test_errors_of_the_live_shelf(self):
        console = Console(3)
        for line in ["take 2", "take 0", "return 2"]:
            console.execute(line)
        self.assert_unchanged_by(console, InvalidPlace, [
            "take 2", "take 3", "take 200", "take " + "9" * 40, "take 1" + "0" * 3990, "take " + "1" * 5000])
        self.assert_unchanged_by(console, InvalidBook, [
            "return 1", "return 2", "return 3", "return " + "9" * 40, "return " + "1" * 5000])
        self.assertEqual([console.execute("take 1"), console.execute("return 0")], ["1", "1"])

    def test_values_that_are_no_strings(self):
        console = Console(3)
        console.execute("take 1")
        values = [value for value in reference.any_items() if not isinstance(value, str)]
        self.assert_unchanged_by(console, InvalidCommand, values + [
            0, ["undo"], ("undo",), [["books"]], b"undo", b"take 0", {"undo": 0}, ("take", 0), ["take", 0]])

    def test_lines_that_are_none(self):
        console = Console(11)
        for line in ["take 10", "take 1", "return 10"]:
            console.execute(line)
        numbers = [
            "", "x", "-1", "+1", "-0", "00", "01", "010", "0x1", "1.0", "1e0", "1_0", "1,", "1\n", "\t1", "None",
            " 1", "1 ", " ", "  ", "1 1", "1 x", "t1", "\u00b2", "\u0661", "\uff11", "1\u0660", "0" * 5000, "(1)"]
        wrong = ["take " + number for number in numbers] + ["return " + number for number in numbers]
        # Here the lines would be possible, but for what is added to them.
        wrong += ["take 0 ", " take 0", "take  0", "take 0\n", "take\t0", "take 0 0", "take0", "take 00",
                  "return 1 ", " return 1", "return  1", "return 1\n", "return 1 1", "return1", "return 01"]
        wrong += ["", " ", "  ", "x", "take", "return", "Take 0", "TAKE 0", "Return 1", "put 0", "t0", "r1",
                  "0", "0 take", "take return 1", "take take 0", "undo 1", "redo", "help", "quit", "-", "none", "ok"]
        for word in ["undo"] + QUESTIONS:
            wrong += [word + " ", " " + word, word + "\n", word + " 0", word + " " + word, word.upper(),
                      word.title(), word[:-1], word + "s", word + " x", "take " + word, "return " + word]
        self.assert_unchanged_by(console, InvalidCommand, wrong)
        self.assertEqual([console.execute("take 0"), console.execute("return 1")], ["0", "0"])

    def test_consoles_are_independent(self):
        one, other = Console(2), Console(2)
        one.execute("take 0")
        self.assertEqual(other.execute("schedule"), "none")
        self.assertEqual(one.execute("schedule"), "t0")

    def test_200_places(self):
        console = Console(200)
        for place in range(199, -1, -1):
            self.assertEqual(console.execute(f"take {place}"), str(place))
        self.assertEqual(console.execute("books"), " ".join(["-"] * 200))
        self.assertEqual(console.execute("gaps"), " ".join(map(str, range(200))))
        self.assertEqual(console.execute("out"), " ".join(map(str, range(199, -1, -1))))
        self.assertEqual(console.execute("return 199"), "0")

    def test_300_operations(self):
        chance = random.Random(31)
        for size in [1, 3, 12, 200]:
            console, model = Console(size), Model(size)
            for step in range(300):
                if model.operations and chance.random() < 0.3:
                    self.assertEqual(console.execute("undo"), "ok")
                    model.operations.pop()
                else:
                    word, number = model.choose(chance)
                    answer = model.perform((word, number))
                    self.assertEqual(console.execute(f"{word} {number}"), str(answer))
                if step % 9 == 0 or size < 12:
                    self.assertEqual(answers(console), expected_answers(model))
            self.assertEqual(parse_schedule(size, console.execute("schedule")), model.operations)

    def test_more_operations_than_a_schedule_has(self):
        console = Console(1)
        for _ in range(220):
            self.assertEqual([console.execute("take 0"), console.execute("return 0")], ["0", "0"])
        self.assertEqual(console.execute("schedule"), " ".join(["t0 r0"] * 220))
        self.assertEqual(console.execute("undo"), "ok")
        self.assertEqual(console.execute("out"), "0")


if __name__ == "__main__":
    unittest.main()
