"""Tests of leftreturn.stretches: points 22 and 23, and points 2, 3, 4 (c) and 10 for this module."""

import itertools
import math
import random
import unittest

from leftreturn import stretches
from leftreturn.errors import InvalidNumber, InvalidOffsets, InvalidPlaces, TooMany
from leftreturn.pairs import is_possible
from leftreturn.stretches import (
    count_fills, count_takes, nth_takes, offsets_of, stretch_lengths, takes_by, takes_index)
from tests import cases, reference

A, F = [2, 0, 3, 1], [0, 2, 1, 3]
UP, DOWN = list(range(200)), list(range(199, -1, -1))
GREATEST = 10 ** 30


def possible_pairs(places):
    """Return a list of the possible pairs (takes, fills) of places, as tuples."""
    return [pair for pair, patterns in reference.patterns_of_pairs(places).items() if patterns]


class StretchesTest(cases.Case):

    def assert_takes(self, fills, offsets, takes, index):
        """These takes have these offsets and this index for the fills."""
        self.assertEqual(takes_by(fills, offsets), takes)
        self.assertEqual(offsets_of(takes, fills), offsets)
        self.assertEqual(nth_takes(fills, index), takes)
        self.assertEqual(takes_index(takes, fills), index)

    def test_functions_are_defined_here(self):
        for name in ["stretch_lengths", "offsets_of", "takes_by", "count_takes", "nth_takes", "takes_index",
                     "count_fills"]:
            self.assertEqual(getattr(stretches, name).__module__, "leftreturn.stretches")

    def test_examples(self):
        self.assertEqual(stretch_lengths([0, 2, 1, 3]), [1, 2, 1, 4])
        self.assertEqual(offsets_of([2, 0, 3, 1], [0, 2, 1, 3]), [0, 0, 0, 2])
        self.assertEqual(takes_by([0, 2, 1], [0, 1, 0]), [0, 2, 1])
        self.assertEqual([count_takes([0, 2, 1]), nth_takes([0, 2, 1], 0), nth_takes([0, 2, 1], 1)],
                         [2, [2, 0, 1], [0, 2, 1]])
        self.assertEqual([count_fills([0, 1]), count_fills([1, 0])], [1, 2])

    def test_no_place(self):
        self.assertEqual(stretch_lengths([]), [])
        self.assertEqual(count_takes([]), 1)
        self.assertEqual(count_fills([]), 1)
        self.assert_takes([], [], [], 0)
        self.assertEqual(takes_by((), ()), [])
        for index in [1, -1, True, False, None]:
            self.assert_raises_exactly(InvalidNumber, [lambda: nth_takes([], index)])
        for offsets in [[0], [None], None, "", {}]:
            self.assert_raises_exactly(InvalidOffsets, [lambda: takes_by([], offsets)])

    def test_one_place(self):
        for place in [0, 1, GREATEST]:
            self.assertEqual(stretch_lengths([place]), [1])
            self.assertEqual(count_takes([place]), 1)
            self.assertEqual(count_fills([place]), 1)
            self.assert_takes([place], [0], [place], 0)
            for offsets in [[], [1], [-1], [0, 0], [False]]:
                self.assert_raises_exactly(InvalidOffsets, [lambda: takes_by([place], offsets)])

    def test_first_and_last_index(self):
        fills = [5, 9, 0, GREATEST, 7]
        self.assertEqual(stretch_lengths(fills), [1, 2, 1, 4, 1])
        self.assertEqual(count_takes(fills), 8)
        self.assert_takes(fills, [0, 0, 0, 0, 0], [GREATEST, 9, 5, 0, 7], 0)
        self.assert_takes(fills, [0, 0, 0, 1, 0], [9, GREATEST, 5, 0, 7], 1)
        self.assert_takes(fills, [0, 1, 0, 0, 0], [GREATEST, 5, 9, 0, 7], 4)
        self.assert_takes(fills, [0, 1, 0, 3, 0], [5, 9, 0, GREATEST, 7], 7)
        for index in [-1, 8, 9, GREATEST, 10 ** 500]:
            self.assert_raises_exactly(InvalidNumber, [lambda: nth_takes(fills, index)])

    def test_all_pairs(self):
        for places in [[], [0], [3, 1], [0, 1, 2], [0, 1, 2, 3], [8, 200, GREATEST, 0], [0, 1, 2, 3, 4]]:
            takes_of = {fills: [] for fills in itertools.permutations(places)}
            for takes, fills in possible_pairs(places):
                takes_of[fills].append(list(takes))
            for fills, found in takes_of.items():
                lengths = [len(reference.stretch_of(fills, number)) for number in range(len(fills))]
                self.assertEqual(stretch_lengths(fills), lengths)
                by_offsets = sorted([reference.offsets_by_text(takes, fills), takes] for takes in found)
                self.assertEqual([offsets for offsets, _ in by_offsets],
                                 [list(each) for each in itertools.product(*map(range, lengths))])
                self.assertEqual(count_takes(fills), len(found))
                for index, (offsets, takes) in enumerate(by_offsets):
                    self.assert_takes(fills, offsets, takes, index)
                self.assert_raises_exactly(InvalidNumber, [lambda: nth_takes(fills, len(found))])

    def test_count_fills_of_all_takes(self):
        for places in [[], [0], [3, 1], [0, 1, 2], [0, 1, 2, 3], [8, 200, GREATEST, 0], [0, 1, 2, 3, 4]]:
            counts = {takes: 0 for takes in itertools.permutations(places)}
            for takes, _ in possible_pairs(places):
                counts[takes] += 1
            for takes, count in counts.items():
                self.assertEqual(count_fills(takes), count)

    def test_numbers_of_pairs(self):
        for size in range(1, 7):
            orders = list(itertools.permutations(range(size)))
            self.assertEqual(sum(count_takes(fills) for fills in orders), (size + 1) ** (size - 1))
            self.assertEqual(sum(count_fills(takes) for takes in orders), (size + 1) ** (size - 1))

    def test_count_fills_of_longer_lists(self):
        chance = random.Random(23)
        for size in [7, 7, 8, 8, 8, 10]:
            takes = chance.sample(range(0, GREATEST, 10 ** 28), size)
            fills = {reference.follow(takes, pattern) for pattern in reference.all_patterns(size)}
            self.assertEqual(count_fills(takes), len(fills))

    def test_count_fills_of_30_and_31_places(self):
        self.assertEqual(count_fills(UP[:30]), 1)
        self.assertEqual(count_fills(DOWN[:30]), reference.count_all_patterns(30))
        # A greatest place that is taken last is filled last.
        self.assertEqual(count_fills(tuple(DOWN[1:30] + [199])), reference.count_all_patterns(29))
        self.assertEqual(count_fills([GREATEST] + UP[:29]), 30)
        for takes in [UP[:31], DOWN[:31], tuple(UP[:31]), [GREATEST] + UP[:30]]:
            self.assert_raises_with(TooMany, "count", 31, [lambda: count_fills(takes)])
        self.assert_raises_with(TooMany, "count", 32, [lambda: count_fills(UP[:32])])
        self.assert_raises_with(TooMany, "count", 200, [lambda: count_fills(UP), lambda: count_fills(DOWN)])
        self.assert_raises_exactly(InvalidPlaces, [
            lambda: count_fills(list(range(201))), lambda: count_fills(UP[:31] + [0]),
            lambda: count_fills(UP[:31] + [True])])

    def test_200_places(self):
        self.assertEqual(stretch_lengths(UP), list(range(1, 201)))
        self.assertEqual(stretch_lengths(DOWN), [1] * 200)
        self.assertEqual(stretch_lengths(DOWN[1:] + [199]), [1] * 199 + [200])
        self.assertEqual(count_takes(UP), math.factorial(200))
        self.assertEqual(count_takes(DOWN), 1)
        self.assert_takes(UP, [0] * 200, DOWN, 0)
        self.assert_takes(UP, UP, UP, math.factorial(200) - 1)
        self.assert_takes(DOWN, [0] * 200, DOWN, 0)
        self.assert_takes(DOWN[1:] + [199], [0] * 199 + [150], DOWN[1:151] + [199] + DOWN[151:], 150)
        self.assert_raises_exactly(InvalidNumber, [
            lambda: nth_takes(UP, math.factorial(200)), lambda: nth_takes(DOWN, 1)])

    def test_indices_of_many_digits(self):
        chance = random.Random(22)
        for fills in [UP, DOWN[100:] + UP[100:], chance.sample(range(10 ** 12), 200)]:
            count = count_takes(fills)
            lengths = [len(reference.stretch_of(fills, number)) for number in range(200)]
            self.assertEqual(stretch_lengths(fills), lengths)
            self.assertEqual(count, math.prod(lengths))
            found = []
            for index in sorted([chance.randrange(count) for _ in range(4)] + [0, count - 1]):
                takes = nth_takes(fills, index)
                self.assertIs(is_possible(takes, fills), True)
                offsets = reference.offsets_by_text(takes, fills)
                self.assert_takes(fills, offsets, takes, index)
                found.append(offsets)
            self.assertEqual(found, sorted(found))

    def test_invalid_places(self):
        for value in reference.wrong_places():
            with self.subTest(value=value):
                # The fills are checked first, whatever else is wrong.
                self.assert_raises_exactly(InvalidPlaces, [
                    lambda: stretch_lengths(value), lambda: count_takes(value), lambda: count_fills(value),
                    lambda: takes_by(value, [0]), lambda: takes_by(value, None), lambda: takes_by(value, []),
                    lambda: nth_takes(value, 0), lambda: nth_takes(value, -1), lambda: nth_takes(value, None)])

    def test_pair_errors(self):
        self.assert_pair_errors(offsets_of)
        self.assert_pair_errors(takes_index)

    def test_invalid_offsets(self):
        wrong = reference.any_values() + [
            [], (), [0], [0, 0, 0], [0] * 5, [0, 2, 0, 0], [1, 0, 0, 0], [0, 0, 1, 0], [0, 0, 0, 4],
            [0, 0, 0, -1], [-1, 0, 0, 0], [0, 0, 0, 10 ** 39], [0, True, 0, 0], [False, 0, 0, 0],
            [0, 0, 0, None], [0, 0, 0, "0"], [0, 0, 0, [0]], [[0], 0, 0, 0], [0, 0, 0, (0,)], "0000",
            b"\x00\x00\x00\x00", {0: 0, 1: 0, 2: 0, 3: 0}, range(4), [{}] * 4, [None] * 4, [0] * 200,
            [reference.nested(18)] * 4, [0, 0, 0, object()],
        ]
        for value in wrong:
            with self.subTest(value=value):
                self.assert_raises_exactly(InvalidOffsets, [lambda: takes_by(F, value)])
        self.assertEqual(takes_by(F, [0, 1, 0, 3]), [0, 2, 1, 3])

    def test_invalid_numbers(self):
        for value in reference.any_items() + [-1, 8, 9, 10 ** 39, 10 ** 900, -10 ** 900, "0", [0], (0,)]:
            with self.subTest(value=value):
                self.assert_raises_exactly(InvalidNumber, [lambda: nth_takes(F, value)])

    def test_lists_and_tuples(self):
        for one, other in itertools.product([list, tuple], repeat=2):
            for result, expected in [
                    (stretch_lengths(one(F)), [1, 2, 1, 4]), (offsets_of(one(A), other(F)), [0, 0, 0, 2]),
                    (takes_by(one(F), other([0, 0, 0, 2])), A), (nth_takes(one(F), 2), A)]:
                self.assertEqual(result, expected)
                self.assertIs(type(result), list)
            self.assertEqual(takes_index(one(A), other(F)), 2)
            self.assertEqual([count_takes(one(F)), count_fills(other(A))], [8, 5])

    def test_arguments_are_left_as_they_were(self):
        for arguments in [[A, F, [0, 0, 0, 2], 2], [[0, 1], [1, 0], [0, 1], 7], [[[0]], [[0]], [[0]], [0]]]:
            takes, fills, offsets, index = arguments
            self.assert_left_alone(arguments, [
                lambda: stretch_lengths(fills), lambda: offsets_of(takes, fills),
                lambda: takes_by(fills, offsets), lambda: count_takes(fills),
                lambda: nth_takes(fills, index), lambda: takes_index(takes, fills),
                lambda: count_fills(takes)])

    def test_results_are_new(self):
        for call in [lambda: stretch_lengths(F), lambda: offsets_of(A, F), lambda: takes_by(F, [0, 0, 0, 2]),
                     lambda: nth_takes(F, 2), lambda: nth_takes([], 0), lambda: stretch_lengths([])]:
            first = call()
            expected = list(first)
            first.append("mine")
            first[0] = None
            self.assertEqual(call(), expected)

    def test_arguments_that_are_changed_are_judged_anew(self):
        fills, offsets = [0, 2, 1], [0, 1, 0]
        self.assertEqual(takes_by(fills, offsets), [0, 2, 1])
        self.assertEqual(count_fills(fills), 2)
        fills[1] = 7
        self.assertEqual(takes_by(fills, offsets), [0, 7, 1])
        fills.reverse()
        self.assertEqual(stretch_lengths(fills), [1, 2, 1])
        self.assertEqual(takes_by(fills, offsets), [1, 7, 0])
        fills.sort()
        self.assertEqual(count_takes(fills), 6)
        self.assertEqual(count_fills(fills), 1)
        offsets[0] = 1
        self.assert_raises_exactly(InvalidOffsets, [lambda: takes_by(fills, offsets)])


if __name__ == "__main__":
    unittest.main()
