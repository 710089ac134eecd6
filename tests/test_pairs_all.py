"""All pairs and patterns of a few places, tried one by one: points 4 (a), 4 (b), 8 and 12 to 15."""

import itertools
import unittest

from leftreturn.errors import Obstructed
from leftreturn.pairs import (
    count_results, fills_by, is_possible, is_result, obstruction, obstructs, time_bounds)
from tests import reference

PLACE_LISTS = [[], [0], [0, 1], [0, 1, 2], [3, 10 ** 30, 0], [0, 1, 2, 3], [200, 4, 10 ** 30, 17]]
ALL_PAIRS = [(places, reference.patterns_of_pairs(places)) for places in PLACE_LISTS]
FIVE = reference.patterns_of_pairs([0, 1, 2, 3, 4])


def candidates(places):
    """Return everything that could be an obstruction of two or three of the places."""
    return [("two",) + chosen for chosen in itertools.product(places, repeat=2)] + [
        ("three",) + chosen for chosen in itertools.product(places, repeat=3)]


class AllPairsTest(unittest.TestCase):

    def each_pair(self):
        for _, patterns in ALL_PAIRS + [([0, 1, 2, 3, 4], FIVE)]:
            for (takes, fills), found in patterns.items():
                yield takes, fills, found

    def test_fills_by(self):
        for takes, fills, found in self.each_pair():
            for pattern in found:
                self.assertEqual(fills_by(takes, pattern), list(fills))

    def test_possible_if_and_only_if_there_is_a_pattern(self):
        for takes, fills, found in self.each_pair():
            self.assertIs(is_possible(takes, fills), bool(found))

    def test_possible_if_and_only_if_there_is_no_obstruction(self):
        for takes, fills, found in self.each_pair():
            two, three = reference.obstructions(takes, fills)
            self.assertEqual(bool(found), not two and not three)
            self.assertEqual(obstruction(takes, fills), None if found else (two + three)[0])

    def test_obstructs(self):
        for places, patterns in ALL_PAIRS:
            values = candidates(places)
            for takes, fills in patterns:
                two, three = reference.obstructions(takes, fills)
                self.assertEqual([value for value in values if obstructs(takes, fills, value)],
                                 [value for value in values if value in two + three])

    def test_time_bounds(self):
        for takes, fills, found in self.each_pair():
            if found:
                bounds = time_bounds(takes, fills)
                self.assertEqual(bounds, reference.bounds_by_text(takes, fills))
                times = [reference.times_of(pattern) for pattern in found]
                self.assertEqual(bounds, [(min(each), max(each)) for each in zip(*times)])
                self.assertEqual(sorted(times), sorted(reference.lists_within(bounds)))
            else:
                with self.assertRaises(Obstructed) as caught:
                    time_bounds(takes, fills)
                self.assertEqual(caught.exception.reason, obstruction(takes, fills))

    def test_least_times_belong_to_the_pattern_with_the_fewest_books_out(self):
        for takes, fills, found in self.each_pair():
            if found:
                least = [low for low, _ in time_bounds(takes, fills)]
                self.assertEqual(reference.times_of(min(found)), least)
                for pattern in found:
                    for number, time in enumerate(reference.times_of(pattern)):
                        self.assertLessEqual(least[number] - number, time - number)

    def test_results(self):
        for places, _ in ALL_PAIRS:
            for takes in itertools.permutations(places):
                for pattern in reference.all_patterns(len(places)):
                    results = reference.all_results(takes, pattern)
                    self.assertEqual(count_results(takes, pattern), len(results))
                    for books in itertools.permutations(places):
                        self.assertIs(is_result(takes, pattern, books), books in results)

    def test_results_of_five_places(self):
        takes = (3, 0, 4, 1, 2)
        for pattern in reference.all_patterns(5):
            results = reference.all_results(takes, pattern)
            self.assertEqual(count_results(takes, pattern), len(results))
            for books in itertools.permutations(takes):
                self.assertIs(is_result(takes, pattern, list(books)), books in results)

    def test_number_of_possible_pairs(self):
        for size, count in [(0, 1), (1, 1), (2, 3), (3, 16), (4, 125)]:
            orders = list(itertools.permutations(range(size)))
            possible = [1 for takes in orders for fills in orders if is_possible(takes, fills)]
            self.assertEqual(len(possible), count)


if __name__ == "__main__":
    unittest.main()
