"""Tests of leftreturn.parking: points 24 to 26 and 4 (c), and points 2, 3 and 10 for this module."""

import itertools
import random
import unittest

from leftreturn import parking
from leftreturn.errors import (
    InvalidNumber, InvalidPair, InvalidPlaces, InvalidSize, InvalidWishes, Obstructed)
from leftreturn.pairs import is_possible
from leftreturn.parking import (
    cars_parked, count_pairs, is_parking, nth_pair, pair_index, pair_of, wishes_by, wishes_index, wishes_of)
from tests import cases, reference

A, F, WISHES = [2, 0, 3, 1], [0, 2, 1, 3], [0, 2, 0, 2]
UP, DOWN = list(range(200)), list(range(199, -1, -1))


def parking_functions(size):
    """Return the list of the parking functions of a size, found by trying."""
    return [
        list(wishes) for wishes in itertools.product(range(size), repeat=size)
        if reference.park(wishes) is not None
    ]


def wrong_wishes():
    """Return values that are not parking functions."""
    return reference.any_values() + [
        [], (), "", "0", 0, [1], [-1], [True], [False], [None], ["0"], [[0]], [(0,)], [{}], [10 ** 39],
        [0, 2], [1, 1], [0, -1], [0, True], [False, 1], [0, "1"], [0, [1]], [0, None], [1, 2, 0, 3, 4, 6],
        [2, 2, 0], [1, 1, 1], [1, 2, 2], [3, 0, 0], [0, 0, 3], [2, 3, 2, 3], [0, 3, 3, 0], {0: 0}, {0},
        reference.nested(19), [0, reference.nested(18)], [0] * 201, list(range(201)), (0,) * 201,
        [0] * 199 + [200], [0] * 199 + [True], UP[1:] + [199], [1] * 200, [object()],
    ]


class ParkingTest(cases.Case):

    def assert_belong(self, wishes, takes, fills, index):
        """These wishes, this pair and this index belong to each other."""
        size = len(wishes)
        self.assertIs(is_parking(wishes), True)
        self.assertEqual(cars_parked(wishes), fills)
        self.assertEqual(wishes_of(takes, fills), wishes)
        self.assertEqual(pair_of(wishes), (takes, fills))
        self.assertEqual(wishes_by(size, index), wishes)
        self.assertEqual(wishes_index(wishes), index)
        self.assertEqual(nth_pair(size, index), (takes, fills))
        self.assertEqual(pair_index(takes, fills), index)

    def test_functions_are_defined_here(self):
        for name in ["is_parking", "cars_parked", "wishes_of", "pair_of", "count_pairs", "wishes_by",
                     "wishes_index", "nth_pair", "pair_index"]:
            self.assertEqual(getattr(parking, name).__module__, "leftreturn.parking")

    def test_examples(self):
        self.assertEqual([is_parking([0, 2, 0, 2]), is_parking([1, 1])], [True, False])
        self.assertEqual(cars_parked([0, 2, 0, 2]), [0, 2, 1, 3])
        self.assertEqual(wishes_of([2, 0, 3, 1], [0, 2, 1, 3]), [0, 2, 0, 2])
        self.assertEqual(pair_of([0, 2, 0, 2]), ([2, 0, 3, 1], [0, 2, 1, 3]))
        self.assertEqual([count_pairs(1), count_pairs(2), count_pairs(3), count_pairs(4)], [1, 3, 16, 125])
        self.assertEqual(wishes_index([0, 2, 0, 2]), 52)
        self.assertEqual(nth_pair(4, 52), ([2, 0, 3, 1], [0, 2, 1, 3]))
        self.assert_belong(WISHES, A, F, 52)

    def test_one_car(self):
        self.assert_belong([0], [0], [0], 0)
        for index in [1, -1, 2, True, False, None]:
            self.assert_raises_exactly(
                InvalidNumber, [lambda: wishes_by(1, index), lambda: nth_pair(1, index)])

    def test_two_cars(self):
        self.assert_belong([0, 0], [1, 0], [0, 1], 0)
        self.assert_belong([0, 1], [0, 1], [0, 1], 1)
        self.assert_belong([1, 0], [1, 0], [1, 0], 2)

    def test_first_and_last_index(self):
        for size in [1, 2, 3, 7, 199, 200]:
            count = (size + 1) ** (size - 1)
            self.assertEqual(count_pairs(size), count)
            self.assertEqual(wishes_by(size, 0), [0] * size)
            self.assertEqual(nth_pair(size, 0), (DOWN[200 - size:], UP[:size]))
            last = nth_pair(size, count - 1)
            self.assertEqual(pair_index(last[0], last[1]), count - 1)
            # The code of the last one has only the digits n: all cars but the first wish one spot less.
            self.assertEqual(wishes_by(size, count - 1), [1] + [0] * (size - 1) if size > 1 else [0])
            for index in [-1, count, count + 1, 10 ** 600]:
                self.assert_raises_exactly(
                    InvalidNumber, [lambda: wishes_by(size, index), lambda: nth_pair(size, index)])

    def test_all_lists_of_wishes(self):
        for size in [1, 2, 3, 4, 5]:
            for wishes in itertools.product(range(size), repeat=size):
                cars = reference.park(wishes)
                self.assertIs(is_parking(wishes), cars is not None)
                self.assertIs(is_parking(list(wishes)), cars is not None)
                if cars is None:
                    self.assert_raises_exactly(InvalidWishes, [
                        lambda: cars_parked(wishes), lambda: pair_of(wishes), lambda: wishes_index(wishes)])
                else:
                    self.assertEqual(cars_parked(wishes), cars)

    def test_all_pairs(self):
        for size in [1, 2, 3, 4]:
            belonging = []
            for (takes, fills), patterns in reference.patterns_of_pairs(range(size)).items():
                if patterns:
                    wishes = reference.wishes_by_text(takes, fills)
                    index = reference.index_by_text(wishes)
                    self.assert_belong(wishes, list(takes), list(fills), index)
                    belonging.append((index, wishes))
                else:
                    self.assert_raises_exactly(Obstructed, [
                        lambda: wishes_of(takes, fills), lambda: pair_index(takes, fills)])
            # Point 4 (c): each parking function belongs to one pair, and each index to one of them.
            self.assertEqual(count_pairs(size), len(belonging))
            self.assertEqual(sorted(wishes for _, wishes in belonging), parking_functions(size))
            self.assertEqual(sorted(index for index, _ in belonging), list(range(len(belonging))))

    def test_all_parking_functions_of_five_cars(self):
        found = sorted([reference.index_by_text(wishes), wishes] for wishes in parking_functions(5))
        self.assertEqual(count_pairs(5), len(found))
        for index, (expected, wishes) in enumerate(found):
            self.assertEqual(index, expected)
            takes, fills = pair_of(wishes)
            self.assertIs(is_possible(takes, fills), True)
            self.assertEqual(reference.wishes_by_text(takes, fills), wishes)
            self.assert_belong(wishes, takes, fills, index)

    def test_the_car_of_a_place_parks_where_it_is_filled(self):
        for wishes in parking_functions(4):
            takes, fills = pair_of(wishes)
            self.assertEqual(cars_parked(wishes), fills)
            self.assertEqual(sorted(takes), [0, 1, 2, 3])

    def test_200_cars(self):
        self.assert_belong([0] * 200, DOWN, UP, 0)
        self.assert_belong(DOWN, DOWN, DOWN, reference.index_by_text(DOWN))
        self.assert_belong(UP, UP, UP, reference.index_by_text(UP))
        self.assertIs(is_parking([0] * 200), True)
        self.assertIs(is_parking([0] * 201), False)
        chance = random.Random(25)
        for _ in range(5):
            wishes = [chance.randrange(spot + 1) for spot in range(200)]
            chance.shuffle(wishes)
            takes, fills = pair_of(wishes)
            self.assertEqual(fills, reference.park(wishes))
            self.assertEqual(reference.wishes_by_text(takes, fills), wishes)
            self.assert_belong(wishes, takes, fills, reference.index_by_text(wishes))

    def test_indices_of_many_digits(self):
        chance = random.Random(26)
        for size in [2, 10, 50, 200]:
            count = (size + 1) ** (size - 1)
            for _ in range(5):
                index = chance.randrange(count)
                wishes = wishes_by(size, index)
                self.assertIsNotNone(reference.park(wishes))
                self.assertEqual(reference.index_by_text(wishes), index)
                takes, fills = nth_pair(size, index)
                self.assert_belong(wishes, takes, fills, index)

    def test_invalid_wishes(self):
        for value in wrong_wishes():
            with self.subTest(value=value):
                self.assertIs(is_parking(value), False)
                self.assert_raises_exactly(InvalidWishes, [
                    lambda: cars_parked(value), lambda: pair_of(value), lambda: wishes_index(value)])

    def test_invalid_sizes(self):
        for value in reference.any_items() + [0, -1, 201, 10 ** 39, True, False, "4", [4], (4,)]:
            with self.subTest(value=value):
                # The size is checked before the index.
                self.assert_raises_exactly(InvalidSize, [lambda: count_pairs(value)] + [
                    lambda function=function, index=index: function(value, index)
                    for function in [wishes_by, nth_pair] for index in [0, -1, None, 10 ** 600]])

    def test_invalid_numbers(self):
        for value in reference.any_items() + [-1, 125, 126, 10 ** 39, 10 ** 900, -10 ** 900, "0", [0]]:
            with self.subTest(value=value):
                self.assert_raises_exactly(
                    InvalidNumber, [lambda: wishes_by(4, value), lambda: nth_pair(4, value)])

    def test_pair_errors(self):
        self.assert_pair_errors(wishes_of)
        self.assert_pair_errors(pair_index)

    def test_lists_that_are_not_full(self):
        wrong = [[], (), [1], [7], [10 ** 30], [1, 2], [0, 2], [0, 1, 3], [1, 2, 3, 4], [0, 10 ** 30],
                 UP[1:], UP[:199] + [200]]
        for function in [wishes_of, pair_index]:
            for places in wrong:
                for takes, fills in [(places, places), (places, [0]), ([0], places), ([1, 0], places),
                                     (places, None), (places, [0, 0])]:
                    self.assert_raises_exactly(InvalidPlaces, [lambda: function(takes, fills)])
            for takes, fills in [([0], [1, 0]), ([0, 1, 2], [1, 0]), (UP, UP[:199]), ([0], UP)]:
                self.assert_raises_exactly(InvalidPair, [lambda: function(takes, fills)])

    def test_lists_and_tuples(self):
        for one, other in itertools.product([list, tuple], repeat=2):
            for result, expected in [
                    (cars_parked(one(WISHES)), F), (wishes_of(one(A), other(F)), WISHES),
                    (wishes_by(4, 52), WISHES)]:
                self.assertEqual(result, expected)
                self.assertIs(type(result), list)
            for pair in [pair_of(one(WISHES)), nth_pair(4, 52)]:
                self.assertEqual(pair, (A, F))
                self.assertEqual([type(pair), type(pair[0]), type(pair[1])], [tuple, list, list])
            self.assertIs(is_parking(one(WISHES)), True)
            self.assertIs(is_parking(one([1, 1])), False)
            self.assertEqual([wishes_index(one(WISHES)), pair_index(one(A), other(F))], [52, 52])

    def test_arguments_are_left_as_they_were(self):
        for arguments in [[A, F, WISHES], [[0, 1], [1, 0], [1, 1]], [[1], [1], [[0]]]]:
            takes, fills, wishes = arguments
            self.assert_left_alone(arguments, [
                lambda: is_parking(wishes), lambda: cars_parked(wishes), lambda: wishes_of(takes, fills),
                lambda: pair_of(wishes), lambda: wishes_index(wishes), lambda: pair_index(takes, fills)])

    def test_results_are_new(self):
        for call in [lambda: cars_parked(WISHES), lambda: wishes_of(A, F), lambda: pair_of(WISHES)[0],
                     lambda: pair_of(WISHES)[1], lambda: wishes_by(4, 52), lambda: nth_pair(4, 52)[0],
                     lambda: nth_pair(4, 52)[1]]:
            first = call()
            expected = list(first)
            first.append("mine")
            first[0] = None
            self.assertEqual(call(), expected)
        takes, fills = pair_of([0])
        self.assertIsNot(takes, fills)

    def test_arguments_that_are_changed_are_judged_anew(self):
        wishes = [0, 0]
        self.assertEqual(pair_of(wishes), ([1, 0], [0, 1]))
        wishes[0] = 1
        self.assertEqual(pair_of(wishes), ([1, 0], [1, 0]))
        self.assertEqual(wishes_index(wishes), 2)
        wishes[1] = 1
        self.assertIs(is_parking(wishes), False)
        self.assert_raises_exactly(InvalidWishes, [lambda: cars_parked(wishes)])
        takes, fills = [1, 0], [0, 1]
        self.assertEqual(pair_index(takes, fills), 0)
        takes.reverse()
        self.assertEqual(wishes_of(takes, fills), [0, 1])
        fills.reverse()
        self.assert_raises_exactly(Obstructed, [lambda: wishes_of(takes, fills)])


if __name__ == "__main__":
    unittest.main()
