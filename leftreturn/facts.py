"""Facts about the patterns of a pair, whether they agree, and what they imply.

A fact is read as limits of the times of single fills: a tuple of two lists of (fill, time), first
those with the least time of a fill, then those with its greatest time.
"""

from itertools import combinations

from leftreturn.checks import check_number, is_listed, is_number
from leftreturn.errors import Contradiction, InvalidFacts
from leftreturn.pairs import time_bounds

MOST_FACTS = 400


def is_fact(value, count):
    """Return whether any value is a fact about a pair of so many places."""
    if not is_listed(value) or len(value) != 3 or not isinstance(value[0], str):
        return False
    word, first, second = value
    if word in ("before", "after"):
        return is_number(first, count) and is_number(second, count)
    return word == "out" and is_number(first, 2 * count + 1) and is_number(second, count + 1)


def check_facts(value, count):
    """Raise InvalidFacts unless a value is a list of facts about a pair of so many places."""
    if not is_listed(value) or len(value) > MOST_FACTS:
        raise InvalidFacts("not a list of at most 400 facts")
    if not all([is_fact(item, count) for item in value]):
        raise InvalidFacts("not a list of facts about the pair")


def limits_of_out(done, out, count):
    """Return the limits that are met if so many books are out after so many operations."""
    if (done + out) % 2 == 1 or out > done or out > 2 * count - done:
        # No time exceeds the number of takes: no pattern meets this limit.
        return [(0, count + 1)], []
    taken = (done + out) // 2
    filled = done - taken
    # As times never decrease, it is enough that the last one of these fills comes before any
    # further take, and the next fill after all of these takes.
    leasts = [(filled, taken)] if filled < count else []
    mosts = [(filled - 1, taken)] if filled > 0 else []
    return leasts, mosts


def limits_of(fact, count):
    """Return the limits that a pattern of a pair of so many places meets if it satisfies a fact."""
    word, first, second = fact
    if word == "before":
        return [(second, first + 1)], []
    if word == "after":
        return [], [(second, first)]
    return limits_of_out(first, second, count)


def read_facts(takes, fills, facts):
    """Return the time bounds of a possible pair, and the list of the limits of each fact."""
    bounds = time_bounds(takes, fills)
    check_facts(facts, len(bounds))
    return bounds, [limits_of(fact, len(bounds)) for fact in facts]


def contradicts_pair(limits, bounds):
    """Return whether no pattern within bounds meets the limits of a fact."""
    leasts, mosts = limits
    too_late = [time > bounds[fill][1] for fill, time in leasts]
    too_early = [time < bounds[fill][0] for fill, time in mosts]
    return any(too_late + too_early)


def puts_behind(limits, others):
    """Return whether limits put a fill behind the greatest time that others give it or a later one."""
    leasts, _ = limits
    _, mosts = others
    return any([fill <= later and time > most for fill, time in leasts for later, most in mosts])


def find_contradiction(bounds, all_limits):
    """Return the first index or pair of indices of facts that contradict each other, or None."""
    for x, limits in enumerate(all_limits):
        if contradicts_pair(limits, bounds):
            return (x,)
    for x, y in combinations(range(len(all_limits)), 2):
        if puts_behind(all_limits[x], all_limits[y]) or puts_behind(all_limits[y], all_limits[x]):
            return (x, y)
    return None


def narrow(bounds, all_limits):
    """Return the bounds of the times of the fills in the patterns that meet all limits.

    If no pattern meets them, the least time of some fill is greater than its greatest time.
    """
    least_times = [least for least, _ in bounds]
    most_times = [most for _, most in bounds]
    for leasts, mosts in all_limits:
        for fill, time in leasts:
            least_times[fill] = max(least_times[fill], time)
        for fill, time in mosts:
            most_times[fill] = min(most_times[fill], time)
    for fill in range(1, len(bounds)):
        least_times[fill] = max(least_times[fill], least_times[fill - 1])
    for fill in reversed(range(len(bounds) - 1)):
        most_times[fill] = min(most_times[fill], most_times[fill + 1])
    return list(zip(least_times, most_times))


def can_be_met(bounds):
    """Return whether the times of some pattern are within bounds that narrow returned."""
    return all([least <= most for least, most in bounds])


def narrow_if_consistent(bounds, all_limits):
    """Return the bounds as narrow does, or raise Contradiction if no pattern meets all limits."""
    narrowed = narrow(bounds, all_limits)
    if not can_be_met(narrowed):
        raise Contradiction(find_contradiction(bounds, all_limits))
    return narrowed


def contradiction(takes, fills, facts):
    """Return None if facts are consistent, otherwise a tuple of indices of one or two of them."""
    bounds, all_limits = read_facts(takes, fills, facts)
    return find_contradiction(bounds, all_limits)


def time_range(takes, fills, facts, fill):
    """Return the least and the greatest time of a fill in the patterns that satisfy facts."""
    bounds, all_limits = read_facts(takes, fills, facts)
    check_number(fill, len(bounds))
    return narrow_if_consistent(bounds, all_limits)[fill]


def implied_by(takes, fills, facts, fact):
    """Return whether every pattern that satisfies facts satisfies one more fact."""
    bounds, all_limits = read_facts(takes, fills, facts)
    if not is_fact(fact, len(bounds)):
        raise InvalidFacts("not a fact about the pair")
    narrowed = narrow(bounds, all_limits)
    if not can_be_met(narrowed):
        return True
    leasts, mosts = limits_of(fact, len(bounds))
    met = [time <= narrowed[fill][0] for fill, time in leasts]
    return all(met + [time >= narrowed[fill][1] for fill, time in mosts])
