"""The lists of takes that are possible for a list of fills, by their offsets, and the reverse count."""

from leftreturn.checks import check_number, check_places, is_listed, is_number
from leftreturn.errors import InvalidOffsets, TooMany
from leftreturn.pairs import check_possible, numbers_by_place

MOST_COUNTED = 30


def stretch_lengths(fills):
    """Return the list of the lengths of the stretches of the fills."""
    check_places(fills)
    lengths = []
    for number, place in enumerate(fills):
        length = 1
        while length <= number and fills[number - length] < place:
            length += 1
        lengths.append(length)
    return lengths


def offsets_of(takes, fills):
    """Return the list of the offsets of a possible pair."""
    check_possible(takes, fills)
    taken = numbers_by_place(takes)
    offsets = []
    for number, length in enumerate(stretch_lengths(fills)):
        others = fills[number + 1 - length:number]
        before = [other for other in others if taken[other] < taken[fills[number]]]
        offsets.append(len(before))
    return offsets


def check_offsets(value, lengths):
    """Raise InvalidOffsets unless a value has one offset for each stretch of these lengths."""
    if not is_listed(value) or len(value) != len(lengths):
        raise InvalidOffsets("not a list with one offset for each fill")
    if not all([is_number(offset, length) for offset, length in zip(value, lengths)]):
        raise InvalidOffsets("an offset is an integer from 0 to the length of its stretch minus 1")


def takes_by(fills, offsets):
    """Return the list of takes that has these offsets for the fills."""
    lengths = stretch_lengths(fills)
    check_offsets(offsets, lengths)
    takes = []
    for place, length, offset in zip(fills, lengths, offsets):
        # Of the places filled so far, those of a stretch are taken behind all others.
        takes.insert(len(takes) + 1 - length + offset, place)
    return takes


def digits_of(number, bases):
    """Return the digits of a number, the first one the most significant, each with its base."""
    digits = []
    rest = number
    for base in bases[::-1]:
        rest, digit = divmod(rest, base)
        digits.append(digit)
    digits.reverse()
    return digits


def number_with(digits, bases):
    """Return the number with these digits, the first one the most significant, each with its base."""
    number = 0
    for digit, base in zip(digits, bases):
        number = number * base + digit
    return number


def count_takes(fills):
    """Return the number of the lists of takes that are possible for fills."""
    count = 1
    for length in stretch_lengths(fills):
        count = count * length
    return count


def nth_takes(fills, index):
    """Return the list of takes with an index among those that are possible for fills."""
    check_number(index, count_takes(fills))
    return takes_by(fills, digits_of(index, stretch_lengths(fills)))


def takes_index(takes, fills):
    """Return the index of a list of takes among those that are possible for fills."""
    return number_with(offsets_of(takes, fills), stretch_lengths(fills))


def ways_to_fill(takes, known):
    """Return the number of the lists of fills for a tuple of takes; known keeps what was found."""
    if takes not in known:
        first = takes.index(max(takes))
        known[takes] = sum([
            ways_to_fill(takes[:first] + takes[first + 1:last + 1], known)
            * ways_to_fill(takes[last + 1:], known)
            for last in range(first, len(takes))
        ])
    return known[takes]


def count_fills(takes):
    """Return the number of the lists of fills that are possible for takes."""
    check_places(takes)
    if len(takes) > MOST_COUNTED:
        raise TooMany(len(takes))
    return ways_to_fill(tuple(takes), {(): 1})
