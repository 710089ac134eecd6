"""Tests of leftreturn.facts: points 16 to 20, and points 2, 3 and 10 for this module."""

import itertools
import random
import unittest

from leftreturn import facts as module
from leftreturn.errors import Contradiction, InvalidFacts, InvalidNumber
from leftreturn.facts import contradiction, implied_by, time_range
from tests import cases, reference

A, F = [2, 0, 3, 1], [0, 2, 1, 3]
UP, DOWN = list(range(200)), list(range(199, -1, -1))


def wrong_facts():
    """Return values that are not facts about a pair of four places."""
    wrong = reference.any_items() + [
        0, 1, "", "before", "out", ("before",), ("before", 0), ("before", 0, 0, 0), ("out", 0),
        ("out", 0, 0, 0), ("two", 0, 1), ("Before", 0, 0), ("BEFORE", 0, 0), ("be", 0, 0), ("", 0, 0),
        ("before ", 0, 0), (b"before", 0, 0), (None, 0, 0), (0, 0, 0), (0, "before", 0), (0, 0, "out"),
        (["before"], 0, 0), (("out",), 0, 0), ({}, 0, 0), ({0}, 0, 0), (True, 0, 0), {"before": 0},
        {"before", 0, 1}, {"before": 0, "i": 0, "j": 0}, ("take", 0, 0), "bef", "out",
        (reference.nested(18), 0, 0), [[("before", 0, 0)]], ("before", (0, 0)), [("before", 0, 0)],
    ]
    numbers = [
        -1, 4, 5, 10 ** 39, -10 ** 39, True, False, None, "0", b"0", [0], (0,), {}, {0}, [], object(),
        reference.nested(18),
    ]
    for word in ["before", "after"]:
        wrong += [(word, number, 0) for number in numbers] + [(word, 3, number) for number in numbers]
        wrong += [(word, 4, 4), (word, 0, 8), (word, 8, 0)]
    for number in numbers:
        if number not in (4, 5):
            wrong += [("out", number, 0), ("out", 4, number), ("out", number, number)]
    return wrong + [("out", 9, 0), ("out", 9, 1), ("out", 4, 5), ("out", 8, 5), ("out", 9, 5), ("out", 3, 8)]


def functions_with(takes, fills, facts):
    """Call each function of facts; the calls are right if the facts are and there is a place."""
    return [
        lambda: contradiction(takes, fills, facts), lambda: time_range(takes, fills, facts, 0),
        lambda: implied_by(takes, fills, facts, ("out", 0, 0)),
    ]


class FactsTest(cases.Case):

    def assert_contradiction(self, takes, fills, facts, indices):
        found = contradiction(takes, fills, facts)
        self.assertEqual(found, indices)
        self.assertIs(type(found), tuple)
        for fill in [0, len(takes) - 1]:
            self.assert_raises_with(
                Contradiction, "indices", indices, [lambda: time_range(takes, fills, facts, fill)])
        for fact in [("out", 0, 0), ("out", 0, 1), ("before", 0, 0), ("after", 0, 0)]:
            self.assertIs(implied_by(takes, fills, facts, fact), True)

    def test_functions_are_defined_here(self):
        for name in ["contradiction", "time_range", "implied_by"]:
            self.assertEqual(getattr(module, name).__module__, "leftreturn.facts")

    def test_examples(self):
        self.assertEqual(
            [contradiction(A, F, [("before", 2, 0)]), contradiction(A, F, [("after", 1, 0)]),
             contradiction(A, F, [("before", 2, 0), ("after", 2, 1)])], [None, (0,), (0, 1)])
        self.assertEqual(time_range([2, 0, 3, 1], [0, 2, 1, 3], [("out", 4, 2)], 1), (3, 3))
        self.assertIs(implied_by([2, 0, 3, 1], [0, 2, 1, 3], [("before", 2, 0)], ("before", 2, 1)), True)

    def test_no_fact(self):
        for none in [[], ()]:
            self.assertIsNone(contradiction(A, F, none))
            self.assertEqual([time_range(A, F, none, fill) for fill in range(4)],
                             [(2, 3), (2, 3), (4, 4), (4, 4)])
            self.assertIs(implied_by(A, F, none, ("before", 1, 0)), True)
            self.assertIs(implied_by(A, F, none, ("before", 2, 0)), False)
            self.assertIs(implied_by(A, F, none, ("after", 3, 1)), True)
            self.assertIs(implied_by(A, F, none, ("after", 2, 1)), False)

    def test_no_place(self):
        only = ("out", 0, 0)
        self.assertIsNone(contradiction([], [], []))
        self.assertIsNone(contradiction([], (), [only] * 400))
        self.assertIs(implied_by([], [], [], only), True)
        self.assertIs(implied_by([], [], [only], only), True)
        for fill in [0, 1, -1, None]:
            self.assert_raises_exactly(InvalidNumber, [lambda: time_range([], [], [only], fill)])
        for fact in [("before", 0, 0), ("after", 0, 0), ("out", 1, 0), ("out", 0, 1), ("out", 1, 1)]:
            self.assert_raises_exactly(InvalidFacts, functions_with([], [], [only, fact]))
            self.assert_raises_exactly(InvalidFacts, [lambda: implied_by([], [], [], fact)])

    def test_one_place(self):
        for place in [0, 10 ** 30]:
            for fact, holds in [(("before", 0, 0), True), (("after", 0, 0), False), (("out", 0, 0), True),
                                (("out", 1, 1), True), (("out", 2, 0), True), (("out", 0, 1), False),
                                (("out", 1, 0), False), (("out", 2, 1), False)]:
                self.assertEqual(contradiction([place], [place], [fact]), None if holds else (0,))
                self.assertIs(implied_by([place], [place], [], fact), holds)
                self.assertIs(implied_by([place], [place], [fact], ("out", 1, 0)), not holds)
            self.assertEqual(time_range([place], [place], [("out", 1, 1)], 0), (1, 1))

    def test_facts_at_the_ends_of_their_ranges(self):
        for fact, holds in [(("before", 0, 0), True), (("before", 0, 3), True), (("before", 3, 3), True),
                            (("after", 3, 0), True), (("out", 0, 0), True), (("out", 8, 0), True)]:
            self.assertIs(implied_by(A, F, [], fact), holds)
            self.assertIsNone(contradiction(A, F, [fact]))
        for fact in [("before", 3, 0), ("after", 0, 0), ("after", 0, 3), ("after", 3, 3), ("out", 0, 4),
                     ("out", 8, 4), ("out", 4, 4), ("out", 0, 2), ("out", 8, 2)]:
            self.assertIs(implied_by(A, F, [], fact), False)
            self.assert_contradiction(A, F, [fact], (0,))
        self.assertIsNone(contradiction(DOWN[196:], UP[:4], [("out", 4, 4)]))

    def test_out_facts_that_no_pattern_satisfies(self):
        for done, out in [(1, 0), (0, 1), (3, 0), (7, 0), (7, 2), (2, 1), (4, 3), (1, 3), (2, 4), (7, 3),
                          (6, 4), (8, 1), (5, 4)]:
            self.assert_contradiction(A, F, [("out", 0, 0), ("out", done, out)], (1,))
            self.assertIs(implied_by(A, F, [], ("out", done, out)), False)

    def test_the_smallest_contradiction_comes_first(self):
        later, earlier, never = ("before", 2, 0), ("after", 2, 1), ("after", 1, 0)
        always = ("before", 0, 0)
        self.assert_contradiction(A, F, [later, earlier, never], (2,))
        self.assert_contradiction(A, F, [never, later, never], (0,))
        self.assert_contradiction(A, F, [earlier, later], (0, 1))
        self.assert_contradiction(A, F, [always, later, always, earlier, later, earlier], (1, 3))
        self.assert_contradiction(A, F, [later, later, earlier, earlier], (0, 2))
        self.assert_contradiction(A, F, [("out", 4, 2), always, later, ("out", 4, 4), never], (3,))
        self.assert_contradiction(A, F, [("out", 3, 1), later, ("out", 3, 3)], (0, 1))

    def test_contradictions_among_out_facts(self):
        for facts, indices in [([("out", 2, 2), ("out", 2, 0)], (0, 1)), ([("out", 1, 1), ("out", 4, 0)], None),
                               ([("out", 3, 3), ("out", 5, 1)], None), ([("out", 3, 3), ("out", 4, 0)], (0, 1)),
                               ([("out", 5, 3), ("out", 3, 1), ("out", 4, 4)], (1, 2))]:
            found = contradiction(UP[:4], UP[:4], facts)
            self.assertEqual(found, indices)

    def test_time_range_is_narrowed_from_both_sides(self):
        takes = fills = UP[:5]
        self.assertEqual([time_range(takes, fills, [], fill) for fill in range(5)],
                         [(1, 5), (2, 5), (3, 5), (4, 5), (5, 5)])
        facts = [("before", 2, 1), ("after", 4, 2)]
        self.assertEqual([time_range(takes, fills, facts, fill) for fill in range(5)],
                         [(1, 4), (3, 4), (3, 4), (4, 5), (5, 5)])
        self.assertEqual([time_range(takes, fills, facts + [("out", 5, 3)], fill) for fill in range(5)],
                         [(1, 4), (4, 4), (4, 4), (4, 5), (5, 5)])

    def test_repeated_facts(self):
        fact = ("before", 2, 0)
        self.assertIsNone(contradiction(A, F, [fact] * 400))
        self.assertEqual(time_range(A, F, [fact] * 400, 0), (3, 3))
        self.assertIs(implied_by(A, F, [fact] * 400, fact), True)

    def test_too_many_facts(self):
        for facts in [[("out", 0, 0)] * 401, (("before", 2, 0),) * 401, [None] * 401]:
            self.assert_raises_exactly(InvalidFacts, functions_with(A, F, facts))

    def test_200_places_and_400_facts(self):
        chance = random.Random(16)
        for _ in range(3):
            letters, out = "", 0
            while len(letters) < 400:
                take = letters.count("T") < 200 and (out == 0 or chance.randrange(5) < 3)
                letters, out = letters + ("T" if take else "R"), out + (1 if take else -1)
            facts = [("out", done, 2 * letters[:done].count("T") - done) for done in range(1, 401)]
            chance.shuffle(facts)
            times = reference.times_of(letters)
            self.assertIsNone(contradiction(UP, UP, facts))
            for fill in chance.sample(range(200), 20):
                self.assertEqual(time_range(UP, UP, facts, fill), (times[fill], times[fill]))
                before, after = ("before", times[fill] - 1, fill), ("before", times[fill] % 200, fill)
                self.assertIs(implied_by(UP, UP, facts, before), True)
                self.assertIs(implied_by(UP, UP, facts, after), times[fill] == 200)
            facts[399] = ("after", times[100] - 1, 100)
            x, y = contradiction(UP, UP, facts)
            self.assertEqual(y, 399)
            self.assertLess(x, 399)

    def test_contradiction_of_the_last_of_400_facts(self):
        always = [("before", 0, 0), ("out", 400, 0)] * 199
        together = always + [("before", 100, 50), ("after", 100, 60)]
        self.assert_contradiction(UP, UP, together, (398, 399))
        self.assert_contradiction(UP, UP, always + [("after", 100, 50), ("after", 49, 49)], (399,))
        self.assertIsNone(contradiction(UP, UP, always + [("before", 100, 50), ("after", 100, 49)]))
        self.assertEqual(time_range(UP, UP, always + [("before", 100, 50), ("after", 101, 59)], 55), (101, 101))
        self.assertEqual(time_range(DOWN, UP, [("out", 200, 200)] * 400, 199), (200, 200))

    def test_pair_errors_come_first(self):
        for facts in [[], [("out", 0, 0)], [("before", 9, 9)], None, [("after", 0, 0)], [None]]:
            self.assert_pair_errors(lambda takes, fills: contradiction(takes, fills, facts))
            for last in [0, None, 9]:
                self.assert_pair_errors(lambda takes, fills: time_range(takes, fills, facts, last))
            for last in [("out", 0, 0), None, ("before", 9, 9)]:
                self.assert_pair_errors(lambda takes, fills: implied_by(takes, fills, facts, last))

    def test_values_that_are_not_lists_of_facts(self):
        for value in reference.any_values() + ["before", 0, ("before", 0, 0), ["out", 0, 0]]:
            with self.subTest(value=value):
                self.assert_raises_exactly(InvalidFacts, functions_with(A, F, value))
                self.assert_raises_exactly(InvalidFacts, functions_with([], [], value))
                # Facts are checked before the fill and before the one more fact.
                self.assert_raises_exactly(InvalidFacts, [
                    lambda: time_range(A, F, value, None), lambda: time_range(A, F, value, 4),
                    lambda: implied_by(A, F, value, None), lambda: implied_by(A, F, value, value)])

    def test_values_that_are_not_facts(self):
        never = ("after", 1, 0)
        for value in wrong_facts():
            with self.subTest(value=value):
                for facts in [[value], [("before", 2, 0), value], (value, ("before", 2, 0)), [value] * 400,
                              [never, value]]:
                    self.assert_raises_exactly(InvalidFacts, functions_with(A, F, facts))
                    self.assert_raises_exactly(InvalidFacts, [lambda: time_range(A, F, facts, 4)])
                for facts in [[], [("before", 2, 0)], [never]]:
                    self.assert_raises_exactly(InvalidFacts, [lambda: implied_by(A, F, facts, value)])

    def test_invalid_fills(self):
        wrong = reference.any_items() + [-1, 4, 5, 10 ** 39, True, False, "0", [0], (0,), None]
        for facts in [[], [("before", 2, 0)], [("after", 1, 0)]]:
            for value in wrong:
                with self.subTest(value=value):
                    self.assert_raises_exactly(InvalidNumber, [lambda: time_range(A, F, facts, value)])

    def test_lists_and_tuples(self):
        for one, other in itertools.product([list, tuple], repeat=2):
            facts = one([other(["before", 2, 0]), one(["after", 2, 1])])
            self.assertEqual(contradiction(one(A), other(F), facts), (0, 1))
            self.assertEqual(time_range(other(A), one(F), one([other(["out", 4, 2])]), 1), (3, 3))
            self.assertIs(implied_by(A, F, one([other(["before", 2, 0])]), other(["before", 2, 1])), True)
            self.assertIs(type(time_range(one(A), other(F), one([]), 0)), tuple)
            self.assert_raises_with(
                Contradiction, "indices", (0, 1), [lambda: time_range(one(A), other(F), facts, 1)])

    def test_arguments_are_left_as_they_were(self):
        for facts in [[["before", 2, 0], ["after", 2, 1]], [["out", 4, 2]], [["after", 1, 0]], [["out", 1], 2]]:
            arguments = [[2, 0, 3, 1], [0, 2, 1, 3], facts]
            self.assert_left_alone(
                arguments, functions_with(*arguments) + [lambda: implied_by(A, F, facts, facts[0])])

    def test_arguments_that_are_changed_are_judged_anew(self):
        facts, fact = [["before", 2, 0], ["after", 2, 1]], ["before", 2, 1]
        self.assertEqual(contradiction(A, F, facts), (0, 1))
        facts[1][0] = "before"
        self.assertIsNone(contradiction(A, F, facts))
        self.assertIs(implied_by(A, F, facts, fact), True)
        fact[0] = "after"
        self.assertIs(implied_by(A, F, facts, fact), False)
        facts[0][1] = 4
        self.assert_raises_exactly(InvalidFacts, functions_with(A, F, facts))
        facts.clear()
        self.assertEqual(time_range(A, F, facts, 0), (2, 3))


if __name__ == "__main__":
    unittest.main()
