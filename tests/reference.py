"""The definitions of the document, followed word by word, and values for the tests.

Nothing here uses the package, so that the tests compare two independent answers.
"""

from itertools import combinations, permutations


def nested(depth):
    """Return a list in a list in a list, as deep as told."""
    value = []
    for _ in range(depth):
        value = [value]
    return value


def any_values():
    """Return values of all kinds; none of them is a size, a list of any length or a pattern."""
    return [
        None, True, False, -1, 10 ** 39, -10 ** 39, "x", "0 1", "take", "two", b"", b"TR", b"\x00",
        {}, {0: 0}, {"take": 0}, set(), {0, 1}, frozenset({0}), range(2), object(), int, len,
        lambda: 0, iter([0]), bytearray(b"TR"), ValueError("x"), NotImplemented, Ellipsis,
    ]


def any_items():
    """Return values that are neither operations nor places."""
    return any_values() + [[], (), [[]], nested(18), [None], (None, None), ["take"], ("take", None)]


def all_patterns(size):
    """Return all patterns with as many letters T as told."""
    found = []

    def extend(text, takes, returns):
        if takes == size and returns == size:
            found.append(text)
        if returns < takes:
            extend(text + "R", takes, returns + 1)
        if takes < size:
            extend(text + "T", takes + 1, returns)

    extend("", 0, 0)
    return found


def follow(takes, pattern):
    """Return the tuple of fills to which a pattern leads."""
    coming = list(takes)
    gaps = []
    fills = []
    for letter in pattern:
        if letter == "T":
            gaps.append(coming.pop(0))
        else:
            least = min(gaps)
            gaps.remove(least)
            fills.append(least)
    return tuple(fills)


def patterns_of_pairs(places):
    """Return a dict from each pair (takes, fills) of the places to the list of its patterns."""
    patterns = all_patterns(len(places))
    found = {}
    for takes in permutations(places):
        for fills in permutations(places):
            found[takes, fills] = []
        for pattern in patterns:
            found[takes, follow(takes, pattern)].append(pattern)
    return found


def times_of(pattern):
    """Return the list of the times of the fills of a pattern."""
    return [pattern[:at].count("T") for at in range(len(pattern)) if pattern[at] == "R"]


def obstructions(takes, fills):
    """Return the lists of all obstructions of two and of three places, ascending."""
    places = sorted(takes)
    taken, filled = takes.index, fills.index
    two = [
        ("two", a, b) for a, b in combinations(places, 2)
        if taken(a) < taken(b) and filled(b) < filled(a)
    ]
    three = [
        ("three", a, b, c) for a, b, c in combinations(places, 3)
        if taken(c) < taken(b) and taken(b) < taken(a)
        and filled(a) < filled(c) and filled(c) < filled(b)
    ]
    return two, three


def single_bounds(takes, fills):
    """Return the bounds of each fill before they are combined."""
    bounds = []
    for number, place in enumerate(fills):
        smaller = [takes.index(other) for other in fills[number + 1:] if other < place]
        bounds.append((takes.index(place) + 1, min(smaller + [len(takes)])))
    return bounds


def bounds_by_text(takes, fills):
    """Return the combined bounds of each fill."""
    single = single_bounds(takes, fills)
    return [
        (max(low for low, _ in single[:at + 1]), min(high for _, high in single[at:]))
        for at in range(len(single))
    ]


def lists_within(bounds):
    """Return all lists of integers that never decrease and stay within bounds."""
    found = [[]]
    for low, high in bounds:
        found = [
            times + [time] for times in found for time in range(low, high + 1)
            if not times or times[-1] <= time
        ]
    return found


def all_results(takes, pattern):
    """Return the set of the tuples of books that can be returned, fill by fill."""
    states = [((), ())]
    coming = list(takes)
    for letter in pattern:
        if letter == "T":
            book = coming.pop(0)
            states = [(out + (book,), done) for out, done in states]
        else:
            states = [
                (tuple(other for other in out if other != book), done + (book,))
                for out, done in states for book in out
            ]
    return {done for _, done in states}


def run_operations(size, operations):
    """Return (wrong index, books, out, filled, most), by a dict from places to books."""
    shelf = {place: place for place in range(size)}
    filled = []
    most = 0
    for index, (word, number) in enumerate(operations):
        out = set(range(size)) - set(shelf.values())
        if word == "take" and number in shelf:
            del shelf[number]
        elif word == "return" and number in out:
            gap = min(place for place in range(size) if place not in shelf)
            shelf[gap] = number
            filled.append(gap)
        else:
            return index, None, None, None, None
        most = max(most, size - len(shelf))
    out = sorted(set(range(size)) - set(shelf.values()))
    return None, [shelf.get(place) for place in range(size)], out, filled, most
