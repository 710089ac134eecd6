"""Tests of leftreturn.pairs: points 6 to 9 and 12 to 15, and points 2, 3 and 10 for this module."""

import itertools
import math
import random
import unittest

from leftreturn import pairs
from leftreturn.errors import InvalidPair, InvalidPattern, InvalidPlaces, Obstructed
from leftreturn.pairs import (
    count_results, fills_by, is_possible, is_result, obstruction, obstructs, time_bounds)
from tests import cases, reference

A, F, PATTERN = [2, 0, 3, 1], [0, 2, 1, 3], "TTRTRTRR"
GREATEST = 10 ** 30


def with_places(takes, fills):
    """Call each function of two place lists."""
    return [
        lambda: obstruction(takes, fills), lambda: is_possible(takes, fills),
        lambda: obstructs(takes, fills, ("two", 0, 1)), lambda: time_bounds(takes, fills),
    ]


def with_pattern(takes, pattern, books):
    """Call each function of a pattern."""
    return [
        lambda: fills_by(takes, pattern), lambda: count_results(takes, pattern),
        lambda: is_result(takes, pattern, books),
    ]


class PairsTest(cases.Case):

    def assert_obstructed(self, takes, fills, reason):
        found = obstruction(takes, fills)
        self.assertEqual(found, reason)
        self.assertIs(type(found), tuple)
        self.assertIs(is_possible(takes, fills), False)
        self.assertIs(obstructs(takes, fills, reason), True)
        with self.assertRaises(Obstructed) as caught:
            time_bounds(takes, fills)
        self.assertIs(type(caught.exception), Obstructed)
        self.assertEqual(caught.exception.reason, reason)
        self.assertIs(type(caught.exception.reason), tuple)

    def assert_possible(self, takes, fills, bounds):
        self.assertIsNone(obstruction(takes, fills))
        self.assertIs(is_possible(takes, fills), True)
        self.assertEqual(time_bounds(takes, fills), bounds)

    def test_functions_are_defined_here(self):
        for name in ["fills_by", "obstruction", "is_possible", "obstructs", "time_bounds",
                     "count_results", "is_result"]:
            self.assertEqual(getattr(pairs, name).__module__, "leftreturn.pairs")

    def test_examples(self):
        self.assertEqual(fills_by([2, 0, 3, 1], "TTRTRTRR"), [0, 2, 1, 3])
        self.assertEqual(obstruction([0, 1], [1, 0]), ("two", 0, 1))
        self.assertEqual(obstruction([2, 1, 0], [0, 2, 1]), ("three", 0, 1, 2))
        self.assertIs(is_possible([2, 0, 3, 1], [0, 2, 1, 3]), True)
        self.assertEqual(time_bounds([2, 0, 3, 1], [0, 2, 1, 3]), [(2, 3), (2, 3), (4, 4), (4, 4)])
        self.assertEqual(reference.single_bounds(A, F), [(2, 4), (1, 3), (4, 4), (3, 4)])
        self.assertEqual(count_results([2, 0, 3, 1], "TTRTRTRR"), 8)
        self.assertIs(is_result([2, 0, 3, 1], "TTRTRTRR", [0, 3, 1, 2]), True)
        self.assertIs(is_result([2, 0, 3, 1], "TTRTRTRR", [3, 0, 1, 2]), False)

    def test_no_place(self):
        self.assertEqual(fills_by([], ""), [])
        self.assert_possible([], [], [])
        self.assertIs(obstructs([], [], ()), False)
        self.assertEqual(count_results([], ""), 1)
        self.assertIs(is_result([], "", []), True)
        self.assertIs(is_result((), "", ()), True)

    def test_one_place(self):
        for place in [0, 1, 200, GREATEST]:
            self.assertEqual(fills_by([place], "TR"), [place])
            self.assert_possible([place], [place], [(1, 1)])
            self.assertEqual(count_results([place], "TR"), 1)
            self.assertIs(is_result([place], "TR", [place]), True)

    def test_least_and_greatest_place(self):
        takes = [GREATEST, 5, 0]
        self.assertEqual(fills_by(takes, "TTRTRR"), [5, 0, GREATEST])
        self.assert_possible(takes, [5, 0, GREATEST], [(2, 2), (3, 3), (3, 3)])
        self.assert_obstructed([0, GREATEST], [GREATEST, 0], ("two", 0, GREATEST))
        self.assert_obstructed(takes, [0, GREATEST, 5], ("three", 0, 5, GREATEST))
        self.assertIs(is_result(takes, "TTRTRR", [GREATEST, 0, 5]), True)

    def test_200_places(self):
        up, down = list(range(200)), list(range(199, -1, -1))
        together, single = "T" * 200 + "R" * 200, "TR" * 200
        self.assertEqual(fills_by(down, together), up)
        self.assertEqual(fills_by(down, single), down)
        self.assert_possible(down, up, [(200, 200)] * 200)
        self.assert_possible(down, down, [(time, time) for time in range(1, 201)])
        self.assert_possible(up, up, [(time, 200) for time in range(1, 201)])
        self.assert_obstructed(up, down, ("two", 0, 1))
        self.assert_obstructed(up, up[:198] + [199, 198], ("two", 198, 199))
        self.assert_obstructed(down, up[:198] + [199, 198], ("three", 0, 198, 199))
        self.assertEqual(count_results(down, together), math.factorial(200))
        self.assertEqual(count_results(up, single), 1)
        self.assertIs(is_result(up, together, down), True)
        self.assertIs(is_result(up, single, up), True)
        self.assertIs(is_result(up, single, up[:198] + [199, 198]), False)

    def test_too_many_places(self):
        many = list(range(201))
        pattern = "T" * 201 + "R" * 201
        self.assert_raises_exactly(InvalidPlaces, with_places(many, many))
        self.assert_raises_exactly(InvalidPlaces, with_pattern(many, pattern, many))
        self.assert_raises_exactly(InvalidPattern, with_pattern(many[:200], pattern, many[:200]))
        self.assert_raises_exactly(InvalidPair, [lambda: is_result([0], "TR", many)])

    def test_invalid_places(self):
        for value in reference.wrong_places():
            with self.subTest(value=value):
                # Places are checked before all else, whatever else is wrong.
                self.assert_raises_exactly(InvalidPlaces, with_places(value, [0, 1]))
                self.assert_raises_exactly(InvalidPlaces, with_places([0, 1], value))
                self.assert_raises_exactly(InvalidPlaces, with_places([], value))
                self.assert_raises_exactly(InvalidPlaces, with_places(value, value))
                self.assert_raises_exactly(InvalidPlaces, with_pattern(value, "TR", [0]))
                self.assert_raises_exactly(InvalidPlaces, with_pattern(value, "RT", None))
                self.assert_raises_exactly(InvalidPlaces, with_pattern(value, None, [0]))

    def test_invalid_pairs(self):
        for takes, fills in [([0], [1]), ([], [0]), ([0], []), ([0, 1], [0, 2]), ([0, 1], [0]),
                             ([0, GREATEST], [0, GREATEST - 1]), ([1, 0], (0, 1, 2)), ([0, 1], [2, 0])]:
            with self.subTest(takes=takes, fills=fills):
                self.assert_raises_exactly(InvalidPair, with_places(takes, fills))

    def test_invalid_patterns(self):
        for value in reference.wrong_patterns():
            with self.subTest(value=value):
                for takes in [[], [0], [0, 1], [2, 0, 3, 1], list(range(200))]:
                    # The pattern is checked before the books.
                    for books in [takes, None, [5]]:
                        self.assert_raises_exactly(InvalidPattern, with_pattern(takes, value, books))

    def test_patterns_with_another_number_of_takes(self):
        for takes, pattern in [([], "TR"), ([0], ""), ([0], "TRTR"), ([0, 1], "TR"), ([0, 1], "TTTRRR"),
                               (list(range(199)), "TR" * 200), (list(range(200)), "TR" * 199)]:
            for books in [takes, None, [5]]:
                self.assert_raises_exactly(InvalidPattern, with_pattern(takes, pattern, books))

    def test_invalid_books(self):
        wrong = reference.wrong_places() + [[], [0], [0, 2], [0, 1, 2], [1, 2], [1, GREATEST], (0,)]
        for books in wrong:
            with self.subTest(books=books):
                for pattern in ["TTRR", "TRTR"]:
                    self.assert_raises_exactly(InvalidPair, [lambda: is_result([0, 1], pattern, books)])

    def test_obstructs_accepts_any_value(self):
        wrong = reference.wrong_places() + reference.wrong_patterns() + [
            ("two",), ("three",), ("two", 0), ("two", 0, 1, 2), ("three", 0, 1), ("three", 0, 1, 2, 3),
            ("two", 1, 0), ("two", 0, 0), ("two", 0, 9), ("two", -1, 0), ("two", 0, -1), ("two", 0, None),
            ("two", "0", "1"), ("two", [0], [1]), ("two", (0,), 1), ("two", {}, {0}), ("two", 0, 10 ** 39),
            ("two", False, True), ("two", 0, True), ("two", False, 1), ("three", False, True, 2),
            ("Two", 0, 1), ("", 0, 1), (b"two", 0, 1), (["two"], 0, 1), (None, 0, 1), (0, 0, 1), (0, 1),
            (2, 0, 1), {"two": 0}, {"two", 0, 1}, "two", ["two", [0, 1]], [["two", 0, 1]], ("two", (0, 1)),
            ("three", [0, 1, 2]), (0, 1, "two"), ("three", 0, 1), ("two", 0, 1, None), ("three", 2, 1, 0),
            reference.nested(20), ("two", reference.nested(18), 1), [reference.nested(18), 0, 1],
        ]
        for value in wrong:
            with self.subTest(value=value):
                self.assertIs(obstructs([0, 1], [1, 0], value), False)
                self.assertIs(obstructs([2, 1, 0], [0, 2, 1], value), False)
                self.assertIs(obstructs(A, F, value), False)

    def test_obstructs_finds_each_obstruction(self):
        takes, fills = [0, 1, 2], [2, 1, 0]
        for value in [("two", 0, 1), ("two", 0, 2), ("two", 1, 2)]:
            self.assertIs(obstructs(takes, fills, value), True)
        self.assertEqual(obstruction(takes, fills), ("two", 0, 1))
        # Both kinds in one pair: the first one is of two places, but both obstruct.
        takes, fills = [2, 1, 0, 3, 4], [0, 2, 1, 4, 3]
        self.assertEqual(obstruction(takes, fills), ("two", 3, 4))
        self.assertIs(obstructs(takes, fills, ("two", 3, 4)), True)
        self.assertIs(obstructs(takes, fills, ("three", 0, 1, 2)), True)
        self.assertIs(obstructs(takes, fills, ("three", 0, 1, 3)), False)

    def test_the_least_obstruction_comes_first(self):
        takes, fills = [3, 2, 1, 0], [0, 3, 1, 2]
        self.assertEqual(reference.obstructions(takes, fills), ([], [("three", 0, 1, 3), ("three", 0, 2, 3)]))
        self.assert_obstructed(takes, fills, ("three", 0, 1, 3))

    def test_lists_and_tuples(self):
        for one, other in itertools.product([list, tuple], repeat=2):
            self.assert_possible(one(A), other(F), [(2, 3), (2, 3), (4, 4), (4, 4)])
            self.assert_obstructed(one([2, 1, 0]), other([0, 2, 1]), ("three", 0, 1, 2))
            self.assertIs(obstructs(one([2, 1, 0]), [0, 2, 1], other(["three", 0, 1, 2])), True)
            self.assertIs(obstructs(one([0, 1]), [1, 0], other(["two", 0, 1])), True)
            self.assertIs(is_result(one(A), PATTERN, other([0, 3, 1, 2])), True)
            self.assertIs(is_result(one(A), PATTERN, other([3, 0, 1, 2])), False)
            self.assert_raises_exactly(InvalidPair, with_places(one([0, 1]), other([1, 2])))
        self.assertEqual(fills_by(tuple(A), PATTERN), F)
        self.assertEqual(count_results(tuple(A), PATTERN), 8)

    def test_kinds_of_results(self):
        self.assertIs(type(fills_by(tuple(A), PATTERN)), list)
        bounds = time_bounds(tuple(A), tuple(F))
        self.assertIs(type(bounds), list)
        self.assertTrue(all(type(bound) is tuple and len(bound) == 2 for bound in bounds))
        self.assertIs(type(count_results(A, PATTERN)), int)

    def test_arguments_are_left_as_they_were(self):
        values = [
            [A, F, PATTERN, [0, 3, 1, 2], ["two", 0, 1]], [[2, 1, 0], [0, 2, 1], "TTTRRR", [2, 0, 1], ["two", 2, 0]],
            [[0, 1], [1, 0], "TTRR", [1], [["two"], 0]], [[0, [1]], [1, 0], "TR", [[1]], [[[]]]],
        ]
        for arguments in values:
            takes, fills, pattern, books, value = arguments
            self.assert_left_alone(
                arguments, with_places(takes, fills) + with_pattern(takes, pattern, books) + [
                    lambda: obstructs(takes, fills, value)])

    def test_results_are_new(self):
        for function, second, answer in [(fills_by, PATTERN, F), (time_bounds, F, time_bounds(A, F))]:
            first = function(A, second)
            self.assertIsNot(first, A)
            self.assertIsNot(first, F)
            expected = list(answer)
            first.append("mine")
            first[0] = None
            self.assertEqual(function(A, second), expected)

    def test_arguments_that_are_changed_are_judged_anew(self):
        takes, fills, value, books = [1, 0], [0, 1], ["two", 0, 1], [0, 1]
        self.assert_possible(takes, fills, [(2, 2), (2, 2)])
        self.assertEqual(fills_by(takes, "TTRR"), [0, 1])
        self.assertIs(is_result(takes, "TRTR", books), False)
        fills.reverse()
        self.assert_possible(takes, fills, [(1, 1), (2, 2)])
        takes.reverse()
        self.assert_obstructed(takes, fills, ("two", 0, 1))
        self.assertIs(is_result(takes, "TRTR", books), True)
        self.assertIs(obstructs(takes, fills, value), True)
        value[0] = "three"
        self.assertIs(obstructs(takes, fills, value), False)
        books[0] = 2
        self.assert_raises_exactly(InvalidPair, [lambda: is_result(takes, "TTRR", books)])
        takes[0] = True
        self.assert_raises_exactly(InvalidPlaces, with_places(takes, fills))
        self.assert_raises_exactly(InvalidPlaces, with_pattern(takes, "TTRR", fills))
        takes.clear()
        self.assert_raises_exactly(InvalidPair, with_places(takes, fills))
        self.assertEqual(count_results(takes, ""), 1)

    def test_larger_pairs(self):
        chance = random.Random(13)
        kinds = {}
        for _ in range(400):
            places = chance.sample([0, GREATEST] + [chance.randrange(GREATEST) for _ in range(30)], 12)
            takes = chance.choice([places, sorted(places), sorted(places, reverse=True)])
            pattern = chance.choice(["TTRTTRTTTRRTTRTTRRTRRRRR", "TTTRTTTRTTTRTTTRRRRRRRRR"])
            fills = list(reference.follow(takes, pattern))
            self.assertEqual(fills_by(takes, pattern), fills)
            for _ in range(chance.randrange(3)):
                at = chance.randrange(11)
                fills[at], fills[at + 1] = fills[at + 1], fills[at]
            two, three = reference.obstructions(takes, fills)
            if two or three:
                self.assert_obstructed(takes, fills, (two + three)[0])
                kinds[(two + three)[0][0]] = True
            else:
                self.assert_possible(takes, fills, reference.bounds_by_text(takes, fills))
                kinds["none"] = True
        self.assertEqual(sorted(kinds), ["none", "three", "two"])


if __name__ == "__main__":
    unittest.main()
