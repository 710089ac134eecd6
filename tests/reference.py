"""The definitions of the document, followed word by word, and values for the tests.

Nothing here uses the package, so that the tests compare two independent answers.
"""

from itertools import combinations, permutations
from math import comb


def nested(depth):
    """Return a list in a list in a list, as deep as told."""
    value = []
    for _ in range(depth):
        value = [value]
    return value


def any_values():
    """Return values of all kinds; none of them is a size, a list of any length or a pattern."""
    return [
        None, True, False, -1, 10 ** 39, -10 ** 39, "x", "0 1", "take", "two", b"", b"TR", b"\x00",
        {}, {0: 0}, {"take": 0}, set(), {0, 1}, frozenset({0}), range(2), object(), int, len,
        lambda: 0, iter([0]), bytearray(b"TR"), ValueError("x"), NotImplemented, Ellipsis,
    ]


def any_items():
    """Return values that are neither operations nor places."""
    return any_values() + [[], (), [[]], nested(18), [None], (None, None), ["take"], ("take", None)]


def wrong_places():
    """Return values that are not place lists."""
    return any_values() + [
        "", 0, [-1], [10 ** 30 + 1], [0, 10 ** 30 + 1], [10 ** 39], [0, 0], [10 ** 30, 1, 10 ** 30],
        [True], [False], [0, True], [1, False], [None], ["0"], [0, "1"], [b"0"], [[0]], [(0,)], [{}], [{0}],
        [0, [1]], nested(19), list(range(201)), tuple(range(201)), [0] * 201, {0: 1}, {0, 1},
    ]


def wrong_patterns():
    """Return values that are not patterns."""
    return any_items() + [
        0, "T", "R", "TT", "RT", "TRR", "TTR", "TRRT", "tr", "T R", " TR", "TR ", "TRX", "XTR", "TR\n",
        "TX", "T ", "Tr", "tR", "TTXR", "TTR ", "TTRTRTRr", "TTRTRTR0", "TTtRTRRR",
        ["T", "R"], ("TR",), "TR" * 201, "T" * 201 + "R" * 201, "T" * 201 + "R" * 200, "T" * 200 + "R" * 201,
        b"TTRTRTRR", list("TTRTRTRR"), "01", "()",
    ]


def all_patterns(size):
    """Return all patterns with as many letters T as told."""
    found = []

    def extend(text, takes, returns):
        if takes == size and returns == size:
            found.append(text)
        if returns < takes:
            extend(text + "R", takes, returns + 1)
        if takes < size:
            extend(text + "T", takes + 1, returns)

    extend("", 0, 0)
    return found


def count_all_patterns(size):
    """Return the number of all patterns with as many letters T as told."""
    return comb(2 * size, size) // (size + 1)


def follow(takes, pattern):
    """Return the tuple of fills to which a pattern leads."""
    coming = list(takes)
    gaps = []
    fills = []
    for letter in pattern:
        if letter == "T":
            gaps.append(coming.pop(0))
        else:
            least = min(gaps)
            gaps.remove(least)
            fills.append(least)
    return tuple(fills)


def patterns_of_pairs(places):
    """Return a dict from each pair (takes, fills) of the places to the list of its patterns."""
    patterns = all_patterns(len(places))
    found = {}
    for takes in permutations(places):
        for fills in permutations(places):
            found[takes, fills] = []
        for pattern in patterns:
            found[takes, follow(takes, pattern)].append(pattern)
    return found


def times_of(pattern):
    """Return the list of the times of the fills of a pattern."""
    return [pattern[:at].count("T") for at in range(len(pattern)) if pattern[at] == "R"]


def obstructions(takes, fills):
    """Return the lists of all obstructions of two and of three places, ascending."""
    places = sorted(takes)
    taken, filled = takes.index, fills.index
    two = [
        ("two", a, b) for a, b in combinations(places, 2)
        if taken(a) < taken(b) and filled(b) < filled(a)
    ]
    three = [
        ("three", a, b, c) for a, b, c in combinations(places, 3)
        if taken(c) < taken(b) and taken(b) < taken(a)
        and filled(a) < filled(c) and filled(c) < filled(b)
    ]
    return two, three


def single_bounds(takes, fills):
    """Return the bounds of each fill before they are combined."""
    bounds = []
    for number, place in enumerate(fills):
        smaller = [takes.index(other) for other in fills[number + 1:] if other < place]
        bounds.append((takes.index(place) + 1, min(smaller + [len(takes)])))
    return bounds


def bounds_by_text(takes, fills):
    """Return the combined bounds of each fill."""
    single = single_bounds(takes, fills)
    return [
        (max(low for low, _ in single[:at + 1]), min(high for _, high in single[at:]))
        for at in range(len(single))
    ]


def lists_within(bounds):
    """Return all lists of integers that never decrease and stay within bounds."""
    found = [[]]
    for low, high in bounds:
        found = [
            times + [time] for times in found for time in range(low, high + 1)
            if not times or times[-1] <= time
        ]
    return found


def all_results(takes, pattern):
    """Return the set of the tuples of books that can be returned, fill by fill."""
    states = [((), ())]
    coming = list(takes)
    for letter in pattern:
        if letter == "T":
            book = coming.pop(0)
            states = [(out + (book,), done) for out, done in states]
        else:
            states = [
                (tuple(other for other in out if other != book), done + (book,))
                for out, done in states for book in out
            ]
    return {done for _, done in states}


def run_operations(size, operations):
    """Return (wrong index, books, out, filled, most), by a dict from places to books."""
    shelf = {place: place for place in range(size)}
    filled = []
    most = 0
    for index, (word, number) in enumerate(operations):
        out = set(range(size)) - set(shelf.values())
        if word == "take" and number in shelf:
            del shelf[number]
        elif word == "return" and number in out:
            gap = min(place for place in range(size) if place not in shelf)
            shelf[gap] = number
            filled.append(gap)
        else:
            return index, None, None, None, None
        most = max(most, size - len(shelf))
    out = sorted(set(range(size)) - set(shelf.values()))
    return None, [shelf.get(place) for place in range(size)], out, filled, most


def all_facts(count):
    """Return all facts about a pair of so many places."""
    found = []
    for take in range(count):
        for fill in range(count):
            found += [("before", take, fill), ("after", take, fill)]
    for done in range(2 * count + 1):
        found += [("out", done, out) for out in range(count + 1)]
    return found


def satisfies(pattern, fact):
    """Return whether a pattern satisfies a fact, letter by letter."""
    word, first, second = fact
    if word == "out":
        return pattern[:first].count("T") - pattern[:first].count("R") == second
    take = [at for at, letter in enumerate(pattern) if letter == "T"][first]
    fill = [at for at, letter in enumerate(pattern) if letter == "R"][second]
    return take < fill if word == "before" else fill < take


def kept_by_facts(patterns):
    """Return a dict from each fact about patterns of one size to the set of those that satisfy it."""
    count = patterns[0].count("T")
    return {
        fact: {pattern for pattern in patterns if satisfies(pattern, fact)}
        for fact in all_facts(count)
    }


def satisfying(patterns, kept, facts):
    """Return the list of the patterns that satisfy all facts, by the dict of kept_by_facts."""
    return [pattern for pattern in patterns if all(pattern in kept[fact] for fact in facts)]


def contradiction_by_text(kept, facts):
    """Return the contradiction of facts, or None, by the dict of kept_by_facts."""
    for x, fact in enumerate(facts):
        if not kept[fact]:
            return (x,)
    for x, y in combinations(range(len(facts)), 2):
        if not kept[facts[x]] & kept[facts[y]]:
            return (x, y)
    return None


def stretch_of(fills, number):
    """Return the list of the places of the stretch of a fill."""
    return max(
        [fills[start:number + 1] for start in range(number + 1)
         if max(fills[start:number + 1]) == fills[number]], key=len)


def offsets_by_text(takes, fills):
    """Return the list of the offsets of a possible pair."""
    return [
        len([other for other in stretch_of(fills, number) if takes.index(other) < takes.index(place)])
        for number, place in enumerate(fills)
    ]


def park(wishes):
    """Return the list of the cars spot by spot, or None if one of them finds no spot."""
    spots = {}
    for car, wish in enumerate(wishes):
        free = [spot for spot in range(wish, len(wishes)) if spot not in spots]
        if not free:
            return None
        spots[free[0]] = car
    return [spots[spot] for spot in range(len(wishes))]


def wishes_by_text(takes, fills):
    """Return the list of the wishes of a possible pair of full lists."""
    offsets = offsets_by_text(takes, fills)
    found = []
    for car in range(len(fills)):
        number = fills.index(car)
        found.append(number + 1 - len(stretch_of(fills, number)) + offsets[number])
    return found


def index_by_text(wishes):
    """Return the index of a parking function by its code."""
    index = 0
    for wish in wishes[1:]:
        index = index * (len(wishes) + 1) + (wish - wishes[0]) % (len(wishes) + 1)
    return index
