"""All pairs of a few places with many lists of facts, tried pattern by pattern: points 4, 16 to 21."""

import itertools
import random
import unittest

from leftreturn.errors import Contradiction, InvalidPattern
from leftreturn.facts import contradiction, implied_by, time_range
from leftreturn.patterns import (
    all_patterns, count_patterns, earliest_pattern, latest_pattern, nth_pattern, out_range, pattern_index)
from tests import cases, reference


def possible_pairs(places):
    """Return a list of (takes, fills, patterns, facts kept) of the possible pairs of places."""
    return [
        (takes, fills, patterns, reference.kept_by_facts(patterns))
        for (takes, fills), patterns in reference.patterns_of_pairs(places).items() if patterns
    ]


def random_facts(chance, patterns, kept):
    """Return a list of facts, often such as a pattern satisfies."""
    pattern = chance.choice(patterns)
    likely = [fact for fact in kept if pattern in kept[fact]]
    return [chance.choice(chance.choice([likely, likely, likely, list(kept)]))
            for _ in range(chance.randrange(7))]


class AllFactsTest(cases.Case):

    def assert_facts(self, pair, facts):
        """The functions of facts and of patterns agree with what is found by trying."""
        takes, fills, patterns, kept = pair
        indices = reference.contradiction_by_text(kept, facts)
        found = reference.satisfying(patterns, kept, facts)
        # Point 4 (e): without a contradiction of one or two facts, some pattern is left.
        self.assertIs(indices is None, bool(found))
        self.assertEqual(contradiction(takes, fills, facts), indices)
        for fact in kept:
            implied = all(pattern in kept[fact] for pattern in found)
            self.assertIs(implied_by(takes, fills, facts, fact), implied)
        self.assertEqual(count_patterns(takes, fills, facts), len(found))
        self.assertEqual(list(all_patterns(takes, fills, facts)), found)
        for index, pattern in enumerate(found):
            self.assertEqual(nth_pattern(takes, fills, index, facts), pattern)
            self.assertEqual(pattern_index(takes, fills, pattern, facts), index)
        for pattern in patterns:
            if pattern not in found:
                self.assert_raises_exactly(
                    InvalidPattern, [lambda: pattern_index(takes, fills, pattern, facts)])
        if found:
            self.assert_ranges(pair, facts, found)
        else:
            calls = [lambda: earliest_pattern(takes, fills, facts), lambda: out_range(takes, fills, facts),
                     lambda: latest_pattern(takes, fills, facts)]
            if takes:
                calls.append(lambda: time_range(takes, fills, facts, 0))
            self.assert_raises_with(Contradiction, "indices", indices, calls)

    def assert_ranges(self, pair, facts, found):
        takes, fills, _, _ = pair
        self.assertEqual(earliest_pattern(takes, fills, facts), min(found))
        self.assertEqual(latest_pattern(takes, fills, facts), max(found))
        for fill, times in enumerate(zip(*[reference.times_of(pattern) for pattern in found])):
            least, most = time_range(takes, fills, facts, fill)
            # Point 19: all times between them occur.
            self.assertEqual(sorted(set(times)), list(range(least, most + 1)))
        most = [max([2 * pattern[:at].count("T") - at for at in range(len(pattern) + 1)])
                for pattern in found]
        self.assertEqual(out_range(takes, fills, facts), (min(most), max(most)))

    def test_all_lists_of_at_most_two_facts(self):
        for places in [[], [0], [10 ** 30, 3]]:
            for pair in possible_pairs(places):
                self.assert_facts(pair, [])
                for fact, other in itertools.product(pair[3], repeat=2):
                    self.assert_facts(pair, [fact])
                    self.assert_facts(pair, [fact, other])

    def test_each_fact_and_pairs_of_facts_of_three_places(self):
        chance = random.Random(3)
        for pair in possible_pairs([0, 1, 2]):
            for fact in pair[3]:
                self.assert_facts(pair, [fact])
            for facts in chance.sample(list(itertools.product(pair[3], repeat=2)), 150):
                self.assert_facts(pair, list(facts))

    def test_each_fact_of_four_places(self):
        for pair in possible_pairs([0, 1, 2, 3]):
            self.assert_facts(pair, [])
            takes, fills, patterns, kept = pair
            for fact in kept:
                self.assertEqual(contradiction(takes, fills, [fact]), None if kept[fact] else (0,))
                self.assertIs(implied_by(takes, fills, [], fact), kept[fact] == set(patterns))

    def test_lists_of_facts(self):
        chance = random.Random(4)
        for places, count in [([0, 1, 2], 40), ([0, 7, 2, 10 ** 30], 15)]:
            for pair in possible_pairs(places):
                for _ in range(count):
                    self.assert_facts(pair, random_facts(chance, pair[2], pair[3]))

    def test_pairs_of_six_places(self):
        chance = random.Random(6)
        patterns = reference.all_patterns(6)
        for _ in range(60):
            takes = tuple(chance.sample(range(6), 6))
            fills = reference.follow(takes, chance.choice(patterns))
            mine = [pattern for pattern in patterns if reference.follow(takes, pattern) == fills]
            pair = takes, fills, mine, reference.kept_by_facts(mine)
            for _ in range(5):
                self.assert_facts(pair, random_facts(chance, mine, pair[3]))


if __name__ == "__main__":
    unittest.main()
