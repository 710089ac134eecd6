"""The patterns of a pair that satisfy facts: the first and the last, their number, one by one.

A pattern is determined by the times of its fills, and patterns ascend as the lists of times do.
"""

from leftreturn.checks import check_number, check_pattern_for
from leftreturn.errors import InvalidPattern
from leftreturn.facts import can_be_met, narrow, narrow_if_consistent, read_facts
from leftreturn.pairs import fill_times


def bounds_with(takes, fills, facts):
    """Return the bounds of the fills with facts; a least time is too great if no pattern is left."""
    bounds, all_limits = read_facts(takes, fills, facts)
    return narrow(bounds, all_limits)


def consistent_bounds(takes, fills, facts):
    """Return the bounds of the fills with facts, or raise Contradiction if no pattern is left."""
    bounds, all_limits = read_facts(takes, fills, facts)
    return narrow_if_consistent(bounds, all_limits)


def pattern_with(times):
    """Return the pattern whose fills have these times."""
    parts = []
    taken = 0
    for time in times:
        parts.append("T" * (time - taken) + "R")
        taken = time
    return "".join(parts)


def earliest_pattern(takes, fills, facts=()):
    """Return the first pattern that satisfies facts."""
    bounds = consistent_bounds(takes, fills, facts)
    return pattern_with([least for least, _ in bounds])


def latest_pattern(takes, fills, facts=()):
    """Return the last pattern that satisfies facts."""
    bounds = consistent_bounds(takes, fills, facts)
    return pattern_with([most for _, most in bounds])


def count_ways(bounds):
    """Return a row for each fill, and one behind the last fill: in how many ways time goes on.

    Item t of a row is the number of lists of times within bounds, for this fill and all fills
    after it, that begin with t or more.
    """
    rows = [[1] * (len(bounds) + 2)]
    for least, most in bounds[::-1]:
        later = rows[-1]
        row = [0] * (len(bounds) + 2)
        for time in reversed(range(len(bounds) + 1)):
            row[time] = row[time + 1] + (later[time] if least <= time <= most else 0)
        rows.append(row)
    rows.reverse()
    return rows


def count_patterns(takes, fills, facts=()):
    """Return the number of the patterns that satisfy facts."""
    return count_ways(bounds_with(takes, fills, facts))[0][0]


def times_at(rows, index):
    """Return the list of times with an index, by the rows of count_ways."""
    times = []
    time = 0
    rest = index
    for row in rows[:-1]:
        while rest >= row[time] - row[time + 1]:
            rest = rest - (row[time] - row[time + 1])
            time += 1
        times.append(time)
    return times


def nth_pattern(takes, fills, index, facts=()):
    """Return the pattern with an index among those that satisfy facts."""
    rows = count_ways(bounds_with(takes, fills, facts))
    check_number(index, rows[0][0])
    return pattern_with(times_at(rows, index))


def next_times(bounds, times):
    """Return the list of times within bounds that follows a list of times, or None."""
    for fill in reversed(range(len(times))):
        if times[fill] < bounds[fill][1]:
            time = times[fill] + 1
            return times[:fill] + [time] + [max(least, time) for least, _ in bounds[fill + 1:]]
    return None


def all_patterns(takes, fills, facts=()):
    """Yield the patterns that satisfy facts, in ascending order."""
    bounds = bounds_with(takes, fills, facts)
    times = None
    if can_be_met(bounds):
        times = [least for least, _ in bounds]
    while times is not None:
        yield pattern_with(times)
        times = next_times(bounds, times)


def pattern_index(takes, fills, pattern, facts=()):
    """Return the index of a pattern among those that satisfy facts."""
    bounds = bounds_with(takes, fills, facts)
    check_pattern_for(takes, pattern)
    times = fill_times(pattern)
    if not all([least <= time <= most for (least, most), time in zip(bounds, times)]):
        raise InvalidPattern("not one of the patterns of the pair that satisfy the facts")
    # For each fill, those go before that keep the times before it and perform it earlier.
    return sum([row[start] - row[time] for row, start, time in zip(count_ways(bounds), [0] + times, times)])


def out_range(takes, fills, facts=()):
    """Return the least and the greatest number of books out at a time, over these patterns."""
    bounds = consistent_bounds(takes, fills, facts)
    # Most books are out before some return, and each fill has its least and its greatest time
    # in the first and in the last pattern.
    least = max([time - fill for fill, (time, _) in enumerate(bounds)], default=0)
    most = max([time - fill for fill, (_, time) in enumerate(bounds)], default=0)
    return least, most
