"""Pairs of takes and fills: the patterns between them, and what rules a pair out."""

from heapq import heappop, heappush
from itertools import combinations

from leftreturn.checks import check_pair, check_pattern_for, check_places, check_same_places
from leftreturn.checks import is_listed, is_place_list, is_whole
from leftreturn.errors import InvalidPair, Obstructed


def numbers_by_place(places):
    """Return a dict with the number of each place of a place list."""
    return {place: number for number, place in enumerate(places)}


def fill_times(pattern):
    """Return the list of the times of the fills in a pattern."""
    times = []
    taken = 0
    for letter in pattern:
        if letter == "T":
            taken += 1
        else:
            times.append(taken)
    return times


def fills_by(takes, pattern):
    """Return the list of places to which a pattern leads from a list of takes."""
    check_places(takes)
    check_pattern_for(takes, pattern)
    gaps = []
    fills = []
    taken = 0
    for letter in pattern:
        if letter == "T":
            heappush(gaps, takes[taken])
            taken += 1
        else:
            fills.append(heappop(gaps))
    return fills


def is_two(taken, filled, a, b):
    """Return whether places a and b make the obstruction of two places."""
    return a < b and taken[a] < taken[b] and filled[b] < filled[a]


def is_three(taken, filled, a, b, c):
    """Return whether places a, b and c make the obstruction of three places."""
    return a < b < c and taken[c] < taken[b] < taken[a] and filled[a] < filled[c] < filled[b]


def first_two(taken, filled):
    """Return the least obstruction of two places, or None."""
    for a, b in combinations(sorted(taken), 2):
        if is_two(taken, filled, a, b):
            return ("two", a, b)
    return None


def last_fill_between(taken, filled, b):
    """Return the last fill before that of b, of a greater place taken before b, or -1."""
    fills = [filled[c] for c in taken if c > b and taken[c] < taken[b] and filled[c] < filled[b]]
    return max(fills, default=-1)


def first_three(taken, filled):
    """Return the least obstruction of three places, or None."""
    places = sorted(taken)
    # For a and b there is a suitable c if and only if the last candidate for b is filled
    # after a: so it is not necessary to try all triples.
    last = {b: last_fill_between(taken, filled, b) for b in places}
    for a, b in combinations(places, 2):
        if taken[b] < taken[a] and filled[a] < last[b]:
            return ("three", a, b, min([c for c in places if is_three(taken, filled, a, b, c)]))
    return None


def obstruction(takes, fills):
    """Return None if a pair is possible, otherwise its first obstruction as a tuple."""
    check_pair(takes, fills)
    taken = numbers_by_place(takes)
    filled = numbers_by_place(fills)
    found = first_two(taken, filled)
    if found is None:
        found = first_three(taken, filled)
    return found


def is_possible(takes, fills):
    """Return whether some pattern leads from takes to fills."""
    return obstruction(takes, fills) is None


def obstructs(takes, fills, value):
    """Return whether any value is an obstruction of a pair, the first one or another."""
    check_pair(takes, fills)
    if not is_listed(value) or len(value) not in (3, 4) or not isinstance(value[0], str):
        return False
    kind, *places = value
    taken = numbers_by_place(takes)
    filled = numbers_by_place(fills)
    if not all([is_whole(place) and place in taken for place in places]):
        return False
    if kind == "two" and len(places) == 2:
        a, b = places
        return is_two(taken, filled, a, b)
    if kind == "three" and len(places) == 3:
        a, b, c = places
        return is_three(taken, filled, a, b, c)
    return False


def least_times(takes, fills):
    """Return the list of the least times of the fills of a possible pair."""
    taken = numbers_by_place(takes)
    times = []
    least = 0
    for place in fills:
        least = max(least, taken[place] + 1)
        times.append(least)
    return times


def most_times(takes, fills):
    """Return the list of the greatest times of the fills of a possible pair."""
    taken = numbers_by_place(takes)
    times = []
    most = len(takes)
    later = []
    # Backwards, as each fill is bound by all fills after it.
    for place in fills[::-1]:
        most = min([most] + [taken[other] for other in later if other < place])
        times.append(most)
        later.append(place)
    times.reverse()
    return times


def check_possible(takes, fills):
    """Raise InvalidPlaces, InvalidPair or Obstructed unless two values are a possible pair."""
    reason = obstruction(takes, fills)
    if reason is not None:
        raise Obstructed(reason)


def time_bounds(takes, fills):
    """Return a list with the least and the greatest time of each fill of a possible pair."""
    check_possible(takes, fills)
    return list(zip(least_times(takes, fills), most_times(takes, fills)))


def count_results(takes, pattern):
    """Return in how many ways the books can stand if any book may be returned at each fill."""
    check_places(takes)
    check_pattern_for(takes, pattern)
    ways = 1
    for returned, time in enumerate(fill_times(pattern)):
        ways = ways * (time - returned)
    return ways


def is_result(takes, pattern, books):
    """Return whether books, in the order of the fills, can be returned in a pattern."""
    check_places(takes)
    check_pattern_for(takes, pattern)
    if not is_place_list(books):
        raise InvalidPair("the books are not a place list")
    check_same_places(takes, books)
    taken = numbers_by_place(takes)
    # Each book stands in the list once, so it is out as soon as it is taken.
    return all([taken[book] < time for book, time in zip(books, fill_times(pattern))])
