"""Tests of leftreturn.patterns: point 21, and points 2, 3, 7, 8, 10 and 16 for this module."""

import inspect
import itertools
import random
import unittest

from leftreturn import patterns
from leftreturn.errors import Contradiction, InvalidFacts, InvalidNumber, InvalidPattern, Obstructed
from leftreturn.pairs import fills_by
from leftreturn.patterns import (
    all_patterns, count_patterns, earliest_pattern, latest_pattern, nth_pattern, out_range, pattern_index)
from tests import cases, reference

A, F = [2, 0, 3, 1], [0, 2, 1, 3]
UP, DOWN = list(range(200)), list(range(199, -1, -1))
TOGETHER, SINGLE = "T" * 200 + "R" * 200, "TR" * 200
NEVER = [("before", 2, 0), ("after", 2, 1)]


def without_facts(takes, fills):
    """Call each function without facts, with an index and a pattern that are right for A and F."""
    return [
        lambda: earliest_pattern(takes, fills), lambda: latest_pattern(takes, fills),
        lambda: count_patterns(takes, fills), lambda: nth_pattern(takes, fills, 0),
        lambda: list(all_patterns(takes, fills)), lambda: pattern_index(takes, fills, "TTRTRTRR"),
        lambda: out_range(takes, fills),
    ]


def with_facts(takes, fills, facts, index=0, pattern="TTRTRTRR"):
    """Call each function with facts."""
    return [
        lambda: earliest_pattern(takes, fills, facts), lambda: latest_pattern(takes, fills, facts),
        lambda: count_patterns(takes, fills, facts), lambda: nth_pattern(takes, fills, index, facts),
        lambda: list(all_patterns(takes, fills, facts)),
        lambda: pattern_index(takes, fills, pattern, facts), lambda: out_range(takes, fills, facts),
    ]


class PatternsTest(cases.Case):

    def assert_patterns(self, takes, fills, facts, expected):
        """The patterns of a pair with facts are these, in this order."""
        self.assertEqual(list(all_patterns(takes, fills, facts)), expected)
        self.assertEqual(count_patterns(takes, fills, facts), len(expected))
        self.assertEqual(earliest_pattern(takes, fills, facts), expected[0])
        self.assertEqual(latest_pattern(takes, fills, facts), expected[-1])
        for index, pattern in enumerate(expected):
            self.assertEqual(nth_pattern(takes, fills, index, facts), pattern)
            self.assertEqual(pattern_index(takes, fills, pattern, facts), index)
        for index in [-1, len(expected), len(expected) + 1, 10 ** 400]:
            self.assert_raises_exactly(InvalidNumber, [lambda: nth_pattern(takes, fills, index, facts)])

    def assert_no_patterns(self, takes, fills, facts, indices):
        self.assertEqual(count_patterns(takes, fills, facts), 0)
        self.assertEqual(list(all_patterns(takes, fills, facts)), [])
        self.assert_raises_with(Contradiction, "indices", indices, [
            lambda: earliest_pattern(takes, fills, facts), lambda: latest_pattern(takes, fills, facts),
            lambda: out_range(takes, fills, facts)])
        for index in [0, 1, -1, None]:
            self.assert_raises_exactly(InvalidNumber, [lambda: nth_pattern(takes, fills, index, facts)])
        for pattern in reference.all_patterns(len(takes)) + ["T", None]:
            self.assert_raises_exactly(
                InvalidPattern, [lambda: pattern_index(takes, fills, pattern, facts)])

    def test_functions_are_defined_here(self):
        for name in ["earliest_pattern", "latest_pattern", "count_patterns", "nth_pattern", "all_patterns",
                     "pattern_index", "out_range"]:
            self.assertEqual(getattr(patterns, name).__module__, "leftreturn.patterns")

    def test_examples(self):
        self.assertEqual(
            [count_patterns(A, F), nth_pattern(A, F, 0), nth_pattern(A, F, 1), nth_pattern(A, F, 2)],
            [3, "TTRRTTRR", "TTRTRTRR", "TTTRRTRR"])
        self.assertEqual(list(all_patterns([1, 0], [0, 1])), ["TTRR"])
        self.assertEqual(out_range([2, 0, 3, 1], [0, 2, 1, 3]), (2, 3))
        self.assertEqual(latest_pattern([2, 0, 3, 1], [0, 2, 1, 3], [("after", 2, 0)]), "TTRTRTRR")

    def test_patterns_of_the_example(self):
        self.assert_patterns(A, F, (), ["TTRRTTRR", "TTRTRTRR", "TTTRRTRR"])
        self.assert_patterns(A, F, [("before", 2, 1)], ["TTRTRTRR", "TTTRRTRR"])
        self.assert_patterns(A, F, [("out", 4, 2)], ["TTRTRTRR", "TTTRRTRR"])
        self.assert_patterns(A, F, [("out", 4, 0)], ["TTRRTTRR"])
        self.assert_patterns(A, F, [("after", 2, 0), ("before", 2, 1)], ["TTRTRTRR"])
        self.assertEqual(out_range(A, F, [("out", 4, 2)]), (2, 3))
        self.assertEqual(out_range(A, F, [("out", 4, 0)]), (2, 2))
        self.assertEqual(out_range(A, F, [("out", 3, 3)]), (3, 3))

    def test_no_place(self):
        for facts in [(), [], [("out", 0, 0)], (["out", 0, 0],) * 400]:
            self.assert_patterns([], [], facts, [""])
            self.assertEqual(out_range([], [], facts), (0, 0))
        for pattern in ["TR", "T", "R", " ", None, [], ()]:
            self.assert_raises_exactly(InvalidPattern, [lambda: pattern_index([], [], pattern)])

    def test_one_place(self):
        for place in [0, 5, 10 ** 30]:
            self.assert_patterns([place], [place], [("out", 1, 1)], ["TR"])
            self.assertEqual(out_range([place], [place]), (1, 1))
            self.assert_no_patterns([place], [place], [("out", 1, 0)], (0,))
            self.assert_no_patterns([place], [place], [("before", 0, 0), ("after", 0, 0)], (1,))

    def test_inconsistent_facts(self):
        self.assert_no_patterns(A, F, NEVER, (0, 1))
        self.assert_no_patterns(A, F, NEVER + [("after", 1, 0)], (2,))
        self.assert_no_patterns(A, F, [("out", 0, 0), ("out", 4, 1)], (1,))
        self.assert_no_patterns(UP[:3], UP[:3], [("out", 2, 0), ("after", 1, 0), ("out", 3, 3)], (0, 2))

    def test_200_places(self):
        self.assert_patterns(DOWN, UP, (), [TOGETHER])
        self.assert_patterns(DOWN, DOWN, (), [SINGLE])
        self.assertEqual(out_range(DOWN, UP), (200, 200))
        self.assertEqual(out_range(DOWN, DOWN), (1, 1))
        self.assertEqual(out_range(UP, UP), (1, 200))
        self.assertEqual(count_patterns(UP, UP), reference.count_all_patterns(200))
        self.assertEqual(nth_pattern(UP, UP, 0), SINGLE)
        self.assertEqual(nth_pattern(UP, UP, 1), "TR" * 198 + "TTRR")
        self.assertEqual(nth_pattern(UP, UP, reference.count_all_patterns(200) - 1), TOGETHER)
        self.assertEqual(pattern_index(UP, UP, SINGLE), 0)
        self.assertEqual(pattern_index(UP, UP, TOGETHER), reference.count_all_patterns(200) - 1)
        self.assertEqual(earliest_pattern(UP, UP), SINGLE)
        self.assertEqual(latest_pattern(UP, UP), TOGETHER)
        self.assert_raises_exactly(InvalidNumber, [
            lambda: nth_pattern(UP, UP, reference.count_all_patterns(200)), lambda: nth_pattern(UP, UP, 10 ** 1000),
            lambda: nth_pattern(UP, UP, -1), lambda: nth_pattern(DOWN, UP, 1)])
        self.assert_raises_exactly(InvalidPattern, [
            lambda: pattern_index(DOWN, UP, SINGLE), lambda: pattern_index(DOWN, DOWN, TOGETHER)])

    def test_indices_of_many_digits(self):
        chance = random.Random(21)
        for facts in [(), [("out", 200, 20), ("before", 70, 60), ("after", 190, 140)]]:
            count = count_patterns(UP, UP, facts)
            self.assertGreater(count, 10 ** 90)
            indices = [chance.randrange(count) for _ in range(10)] + [0, 1, count // 2, count - 2, count - 1]
            found = []
            for index in sorted(indices):
                pattern = nth_pattern(UP, UP, index, facts)
                self.assertEqual(fills_by(UP, pattern), UP)
                self.assertEqual([fact for fact in facts if not reference.satisfies(pattern, fact)], [])
                self.assertEqual(pattern_index(UP, UP, pattern, facts), index)
                found.append(pattern)
            self.assertEqual(found, sorted(found))
            self.assertEqual(found[0], earliest_pattern(UP, UP, facts))
            self.assertEqual(found[-1], latest_pattern(UP, UP, facts))

    def test_400_facts_that_leave_one_pattern(self):
        pattern = "TTRTTRTRTRRR" * 33 + "TTRR"
        facts = [["out", done, 2 * pattern[:done].count("T") - done] for done in range(1, 401)]
        self.assert_patterns(UP, UP, facts, [pattern])
        self.assertEqual(out_range(UP, UP, tuple(facts)), (3, 3))
        # Without one of them, two letters may change places.
        facts[200] = ["out", 0, 0]
        self.assertEqual(pattern[200:202], "TR")
        self.assert_patterns(UP, UP, facts, [pattern[:200] + "RT" + pattern[202:], pattern])

    def test_generator(self):
        found = all_patterns(UP, UP)
        self.assertTrue(inspect.isgenerator(found))
        self.assertTrue(inspect.isgeneratorfunction(all_patterns))
        self.assertEqual([next(found), next(found), next(found)],
                         [SINGLE, "TR" * 198 + "TTRR", "TR" * 197 + "TTRRTR"])
        # Errors are raised before the first item.
        self.assert_raises_exactly(Obstructed, [lambda: next(all_patterns([0, 1], [1, 0]))])
        self.assert_raises_exactly(InvalidFacts, [lambda: next(all_patterns(UP, UP, [("out", 0, 0), None]))])
        takes, fills, facts = [0, 1, 2], [0, 1, 2], [["out", 0, 0]]
        found = all_patterns(takes, fills, facts)
        first = next(found)
        takes.clear()
        fills.reverse()
        facts[0] = None
        self.assertEqual([first] + list(found), reference.all_patterns(3))

    def test_facts_may_be_omitted_or_passed_by_name(self):
        for call, other in zip(without_facts(A, F), with_facts(A, F, ())):
            self.assertEqual(call(), other())
        facts = [("before", 2, 1)]
        self.assertEqual(
            [earliest_pattern(A, F, facts=facts), latest_pattern(A, F, facts=facts),
             count_patterns(A, F, facts=facts), nth_pattern(A, F, 1, facts=facts),
             list(all_patterns(A, F, facts=facts)), pattern_index(A, F, "TTTRRTRR", facts=facts),
             out_range(A, F, facts=facts)],
            ["TTRTRTRR", "TTTRRTRR", 2, "TTTRRTRR", ["TTRTRTRR", "TTTRRTRR"], 1, (2, 3)])

    def test_pair_errors_come_first(self):
        for number in range(7):
            self.assert_pair_errors(lambda takes, fills: without_facts(takes, fills)[number]())
            for facts in [[], None, [("out", 0, 0)], [("out", 1, 0)], [("before", 9, 9)], [None]]:
                for index, pattern in [(0, "TTRR"), (None, None), (99, "TR")]:
                    self.assert_pair_errors(
                        lambda takes, fills: with_facts(takes, fills, facts, index, pattern)[number]())

    def test_invalid_facts(self):
        wrong = reference.any_values() + [
            [value] for value in reference.any_items()] + [
            [("before", 0, 4)], [("before", 4, 0)], [("after", -1, 0)], [("out", 9, 1)], [("out", 4, 5)],
            [("before", True, 0)], [("out", 4, False)], [("out", 0, 0)] * 401, NEVER + [("out", 0)],
            [("out", 1, 0), ("before", 0, "0")], ("before", 2, 0),
        ]
        for facts in wrong:
            with self.subTest(facts=facts):
                self.assert_raises_exactly(InvalidFacts, with_facts(A, F, facts))
                # Facts are checked before the index and the pattern.
                for index, pattern in [(None, None), (3, "TTTTRRRR"), (-1, "TR")]:
                    self.assert_raises_exactly(InvalidFacts, with_facts(A, F, facts, index, pattern))

    def test_invalid_numbers(self):
        for value in reference.any_items() + [-1, 3, 4, 10 ** 39, 10 ** 500, -10 ** 500, "0", [0], (0,)]:
            for facts in [(), [("before", 2, 1)], NEVER]:
                with self.subTest(value=value, facts=facts):
                    self.assert_raises_exactly(InvalidNumber, [lambda: nth_pattern(A, F, value, facts)])
        self.assert_raises_exactly(InvalidNumber, [lambda: nth_pattern(A, F, 2, [("before", 2, 1)])])

    def test_invalid_patterns(self):
        mine = ["TTRRTTRR", "TTRTRTRR", "TTTRRTRR"]
        others = [pattern for pattern in reference.all_patterns(4) if pattern not in mine]
        for value in reference.wrong_patterns() + others + ["", "TR", "TTRR", "TTRTRR", "TTTTTRRRRR"]:
            with self.subTest(value=value):
                for facts in [(), [("before", 2, 1)], NEVER]:
                    self.assert_raises_exactly(InvalidPattern, [lambda: pattern_index(A, F, value, facts)])
        self.assertEqual(pattern_index(A, F, "TTRRTTRR", [("after", 2, 1)]), 0)
        self.assert_raises_exactly(
            InvalidPattern, [lambda: pattern_index(A, F, "TTRRTTRR", [("before", 2, 1)])])

    def test_lists_and_tuples(self):
        for one, other in itertools.product([list, tuple], repeat=2):
            facts = one([other(["before", 2, 1]), one(["out", 0, 0])])
            self.assert_patterns(one(A), other(F), facts, ["TTRTRTRR", "TTTRRTRR"])
            self.assert_no_patterns(other(A), one(F), one([other(fact) for fact in NEVER]), (0, 1))
            self.assertIs(type(out_range(one(A), other(F), facts)), tuple)

    def test_arguments_are_left_as_they_were(self):
        for facts in [[], [["before", 2, 1]], [list(fact) for fact in NEVER], [["out", [1]], 2]]:
            arguments = [[2, 0, 3, 1], [0, 2, 1, 3], facts]
            self.assert_left_alone(arguments, with_facts(*arguments))

    def test_arguments_that_are_changed_are_judged_anew(self):
        takes, fills, facts = [0, 1, 2], [0, 1, 2], [["before", 1, 0]]
        self.assertEqual(count_patterns(takes, fills, facts), 3)
        facts[0] = ["before", 2, 0]
        self.assert_patterns(takes, fills, facts, ["TTTRRR"])
        takes.reverse()
        self.assert_patterns(takes, fills, facts, ["TTTRRR"])
        fills.reverse()
        self.assert_no_patterns(takes, fills, facts, (0,))
        facts.pop()
        self.assert_patterns(takes, fills, facts, ["TRTRTR"])


if __name__ == "__main__":
    unittest.main()
