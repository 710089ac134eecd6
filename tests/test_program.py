"""Tests of the whole program: points 1 to 4, the interface, and what the modules say of each other."""

import ast
import doctest
import importlib
import inspect
import os
import random
import unittest

from leftreturn import checks, errors
from leftreturn.console import Console
from leftreturn.live import LiveShelf
from leftreturn.orders import all_sorting, count_sorting, is_sorting, nth_sorting, sorting_index
from leftreturn.pairs import count_results, fills_by, is_possible, is_result, obstructs
from leftreturn.parking import count_pairs, is_parking, nth_pair, pair_index, pair_of, wishes_of
from leftreturn.patterns import count_patterns, nth_pattern, out_range, pattern_index
from leftreturn.schedules import books_after, books_out, is_schedule, most_out, places_filled
from leftreturn.stretches import nth_takes, offsets_of, takes_by, takes_index
from leftreturn.texts import format_places, format_schedule, parse_places, parse_schedule
from tests import cases

TOP = os.path.dirname(os.path.dirname(os.path.abspath(__file__)))
PACKAGE = os.path.join(TOP, "leftreturn")

FUNCTIONS = {
    "schedules": [
        "is_schedule(size, value)", "books_after(size, schedule)", "books_out(size, schedule)",
        "places_filled(size, schedule)", "most_out(size, schedule)"],
    "pairs": [
        "fills_by(takes, pattern)", "obstruction(takes, fills)", "is_possible(takes, fills)",
        "obstructs(takes, fills, value)", "time_bounds(takes, fills)", "count_results(takes, pattern)",
        "is_result(takes, pattern, books)"],
    "facts": [
        "contradiction(takes, fills, facts)", "time_range(takes, fills, facts, fill)",
        "implied_by(takes, fills, facts, fact)"],
    "patterns": [
        "earliest_pattern(takes, fills, facts=())", "latest_pattern(takes, fills, facts=())",
        "count_patterns(takes, fills, facts=())", "nth_pattern(takes, fills, index, facts=())",
        "all_patterns(takes, fills, facts=())", "pattern_index(takes, fills, pattern, facts=())",
        "out_range(takes, fills, facts=())"],
    "stretches": [
        "stretch_lengths(fills)", "offsets_of(takes, fills)", "takes_by(fills, offsets)",
        "count_takes(fills)", "nth_takes(fills, index)", "takes_index(takes, fills)", "count_fills(takes)"],
    "parking": [
        "is_parking(value)", "cars_parked(wishes)", "wishes_of(takes, fills)", "pair_of(wishes)",
        "count_pairs(size)", "wishes_by(size, index)", "wishes_index(wishes)", "nth_pair(size, index)",
        "pair_index(takes, fills)"],
    "orders": [
        "cycles_of(order)", "is_sorting(order, value)", "sorting_schedule(order)", "count_sorting(order)",
        "nth_sorting(order, index)", "all_sorting(order)", "sorting_index(order, schedule)"],
    "texts": [
        "format_places(places)", "format_schedule(size, schedule)", "parse_places(text)",
        "parse_schedule(size, text)"],
}
METHODS = {
    LiveShelf: [
        "__init__(self, size)", "take_book(self, place)", "return_book(self, book)", "undo(self)",
        "current_books(self)", "current_gaps(self)", "current_out(self)", "place_of(self, book)",
        "current_schedule(self)", "duplicate(self)", "__len__(self)", "__eq__(self, other)"],
    Console: ["__init__(self, size)", "execute(self, line)"],
}
CLASSES = {
    "errors": [
        "ShelfError", "InvalidSize", "InvalidPlaces", "InvalidPair", "InvalidPattern", "InvalidOrder",
        "InvalidNumber", "InvalidFacts", "InvalidOffsets", "InvalidWishes", "InvalidPlace", "InvalidBook",
        "NothingToUndo", "InvalidCommand", "InvalidSchedule", "Obstructed", "Contradiction", "TooMany",
        "InvalidText"],
    "live": ["LiveShelf"],
    "console": ["Console"],
}


def schedule_by(chance, takes, pattern):
    """Return a schedule that follows a pattern, and the list of the books that it returns."""
    coming = list(takes)
    out = []
    schedule = []
    for letter in pattern:
        if letter == "T":
            out.append(coming.pop(0))
            schedule.append(("take", out[-1]))
        else:
            schedule.append(("return", out.pop(chance.randrange(len(out)))))
    return schedule, [book for word, book in schedule if word == "return"]


class InterfaceTest(unittest.TestCase):

    def test_functions_and_their_arguments(self):
        for name, functions in FUNCTIONS.items():
            module = importlib.import_module("leftreturn." + name)
            for text in functions:
                function = getattr(module, text.partition("(")[0])
                self.assertTrue(inspect.isfunction(function))
                self.assertEqual(function.__name__ + str(inspect.signature(function)), text)

    def test_methods_and_their_arguments(self):
        for kind, methods in METHODS.items():
            self.assertEqual(kind.__bases__, (object,))
            for text in methods:
                method = vars(kind)[text.partition("(")[0]]
                self.assertTrue(inspect.isfunction(method))
                self.assertEqual(method.__name__ + str(inspect.signature(method)), text)
        self.assertEqual(str(inspect.signature(LiveShelf.from_schedule)), "(size, schedule)")

    def test_names_are_defined_in_their_files(self):
        names = {module: [text.partition("(")[0] for text in FUNCTIONS[module]] for module in FUNCTIONS}
        for module, expected in {**names, **CLASSES}.items():
            with open(os.path.join(PACKAGE, module + ".py"), encoding="utf-8") as file:
                body = ast.parse(file.read()).body
            kind = ast.ClassDef if module in CLASSES else ast.FunctionDef
            found = [node.name for node in body if isinstance(node, kind)]
            for name in expected:
                self.assertEqual(found.count(name), 1)

    def test_files(self):
        expected = sorted([*FUNCTIONS, *CLASSES, "__init__", "checks"])
        found = sorted(name for name in os.listdir(PACKAGE) if name != "__pycache__")
        self.assertEqual(found, [name + ".py" for name in expected])

    def test_the_greatest_size_is_one(self):
        self.assertEqual(LiveShelf.MOST_SIZE, checks.MOST_SIZE)
        self.assertEqual(len(LiveShelf(LiveShelf.MOST_SIZE).current_books()), 200)

    def test_examples_of_the_readme(self):
        found = doctest.testfile(os.path.join(TOP, "README.md"), module_relative=False)
        self.assertEqual(found.failed, 0)
        self.assertGreater(found.attempted, 40)


class TogetherTest(cases.Case):

    def assert_schedule_everywhere(self, size, schedule):
        """Texts, live shelves and consoles agree with the functions on a schedule."""
        self.assertIs(is_schedule(size, schedule), True)
        text = format_schedule(size, schedule)
        self.assertEqual(parse_schedule(size, text), schedule)
        live = LiveShelf.from_schedule(size, schedule)
        console = Console(size)
        filled = []
        for word, number in schedule:
            answer = console.execute(f"{word} {number}")
            filled += [int(answer)] * (word == "return")
        self.assertEqual(places_filled(size, schedule), filled)
        self.assertEqual(books_after(size, schedule), live.current_books())
        self.assertEqual(books_out(size, schedule), sorted(live.current_out()))
        self.assertEqual(live.current_schedule(), schedule)
        self.assertEqual(console.execute("schedule"), text or "none")
        books = ["-" if book is None else str(book) for book in live.current_books()]
        self.assertEqual(console.execute("books").split(" "), books)
        return live

    def test_schedules_that_sort(self):
        chance = random.Random(1)
        for size in [1, 2, 3, 5, 8, 40, 200]:
            for _ in range(3):
                order = chance.sample(range(size), size)
                schedule = nth_sorting(order, chance.randrange(count_sorting(order)))
                live = self.assert_schedule_everywhere(size, schedule)
                self.assertEqual(live.current_books(), order)
                self.assertIs(live.is_complete, True)
                self.assertEqual(sorting_index(order, live.current_schedule()),
                                 sorting_index(order, schedule))
                # The takes and the places filled are a possible pair, as for each schedule.
                takes = [place for word, place in schedule if word == "take"]
                self.assertIs(is_possible(takes, places_filled(size, schedule)), True)

    def test_each_schedule_of_an_order_leads_there_on_one_live_shelf(self):
        order = [4, 3, 1, 2, 0]
        live = LiveShelf(5)
        for schedule in all_sorting(order):
            for word, number in schedule:
                if word == "take":
                    live.take_book(number)
                else:
                    live.return_book(number)
            self.assertEqual(live.current_books(), order)
            while len(live) > 0:
                live.undo()

    def test_pairs_patterns_and_schedules(self):
        chance = random.Random(2)
        for size in [1, 2, 3, 7, 30, 200]:
            for _ in range(3):
                index = chance.randrange(count_pairs(size))
                takes, fills = nth_pair(size, index)
                self.assertEqual(pair_index(takes, fills), index)
                self.assertEqual(pair_of(wishes_of(takes, fills)), (takes, fills))
                self.assertEqual(takes_by(fills, offsets_of(takes, fills)), takes)
                self.assertEqual(nth_takes(fills, takes_index(takes, fills)), takes)
                self.assertEqual(parse_places(format_places(takes)), takes)
                number = chance.randrange(count_patterns(takes, fills))
                pattern = nth_pattern(takes, fills, number)
                self.assertEqual(pattern_index(takes, fills, pattern), number)
                self.assertEqual(fills_by(takes, pattern), fills)
                schedule, books = schedule_by(chance, takes, pattern)
                live = self.assert_schedule_everywhere(size, schedule)
                self.assertEqual(places_filled(size, schedule), fills)
                self.assertEqual([live.current_books()[place] for place in fills], books)
                self.assertIs(is_result(takes, pattern, books), True)
                self.assertGreaterEqual(count_results(takes, pattern), 1)
                least, most = out_range(takes, fills)
                self.assertTrue(least <= most_out(size, schedule) <= most)

    def test_objects_of_the_package_are_values_of_other_kinds(self):
        live = LiveShelf.from_schedule(2, [("take", 1)])
        for value in [live, live.undo, LiveShelf, Console(2), Console, errors.InvalidText(1), is_schedule]:
            for wrong in [value, [value], (value, value), [("take", value)], [0, value]]:
                with self.subTest(wrong=wrong):
                    self.assertIs(is_schedule(2, wrong), False)
                    self.assertIs(is_sorting([1, 0], wrong), False)
                    self.assertIs(is_parking(wrong), False)
                    self.assertIs(obstructs([0, 1], [1, 0], wrong), False)
                    self.assert_raises_exactly(errors.InvalidSize, [
                        lambda: LiveShelf(wrong), lambda: Console(wrong), lambda: count_pairs(wrong)])
                    self.assert_raises_exactly(errors.InvalidOrder, [lambda: count_sorting(wrong)])
                    self.assert_raises_exactly(errors.InvalidPlaces, [
                        lambda: format_places(wrong), lambda: is_possible(wrong, [0])])
                    self.assert_raises_exactly(errors.InvalidNumber, [
                        lambda: nth_sorting([1, 0], wrong), lambda: nth_pair(2, wrong)])
                    self.assert_raises_exactly(errors.InvalidFacts, [
                        lambda: count_patterns([0], [0], wrong), lambda: count_patterns([0], [0], [wrong])])
                    self.assert_raises_exactly(errors.InvalidPattern, [
                        lambda: fills_by([0], wrong), lambda: pattern_index([0], [0], wrong)])
                    self.assert_raises_exactly(errors.InvalidPlace, [lambda: live.take_book(wrong)])
                    self.assert_raises_exactly(errors.InvalidBook, [
                        lambda: live.return_book(wrong), lambda: live.place_of(wrong)])
                    self.assert_raises_exactly(errors.InvalidText, [
                        lambda: parse_places(wrong), lambda: parse_schedule(2, wrong)])
                    self.assert_raises_exactly(
                        errors.InvalidCommand, [lambda: Console(2).execute(wrong)])

    def test_the_same_call_returns_the_same_result(self):
        order = [5, 0, 4, 1, 2, 3]
        self.assertEqual(list(all_sorting(order)), list(all_sorting(order)))
        live = LiveShelf.from_schedule(6, nth_sorting(order, 1))
        for _ in range(3):
            self.assertEqual(live.current_books(), order)
            self.assertEqual(live.current_schedule(), nth_sorting(order, 1))
            self.assertEqual(nth_pair(9, 10 ** 7), nth_pair(9, 10 ** 7))


if __name__ == "__main__":
    unittest.main()
