"""Parking functions, and the possible pairs of full lists that belong to them."""

from leftreturn.checks import MOST_SIZE, check_full_places, check_number, check_size, is_listed, is_number
from leftreturn.errors import InvalidWishes
from leftreturn.stretches import digits_of, number_with, offsets_of, stretch_lengths, takes_by


def is_parking(value):
    """Return whether any value is a parking function."""
    if not is_listed(value) or not 1 <= len(value) <= MOST_SIZE:
        return False
    if not all([is_number(wish, len(value)) for wish in value]):
        return False
    # All cars find a spot if and only if, for each number k, at least k cars wish for one of the
    # first k spots.
    return all([wish <= spot for spot, wish in enumerate(sorted(value))])


def check_wishes(value):
    """Raise InvalidWishes unless a value is a parking function."""
    if not is_parking(value):
        raise InvalidWishes("not a parking function")


def cars_parked(wishes):
    """Return the list of the cars of a parking function, spot by spot."""
    check_wishes(wishes)
    cars = [None] * len(wishes)
    for car, wish in enumerate(wishes):
        spot = wish
        while cars[spot] is not None:
            spot += 1
        cars[spot] = car
    return cars


def first_fills(fills):
    """Return the list of the numbers of the first fills of the stretches."""
    return [number + 1 - length for number, length in enumerate(stretch_lengths(fills))]


def wishes_of(takes, fills):
    """Return the parking function of a possible pair of full lists."""
    check_full_places(takes)
    check_full_places(fills)
    offsets = offsets_of(takes, fills)
    wishes = [0] * len(fills)
    for place, first, offset in zip(fills, first_fills(fills), offsets):
        wishes[place] = first + offset
    return wishes


def pair_of(wishes):
    """Return the pair (takes, fills) of a parking function."""
    fills = cars_parked(wishes)
    offsets = [wishes[car] - first for car, first in zip(fills, first_fills(fills))]
    return takes_by(fills, offsets), fills


def count_pairs(size):
    """Return the number of the possible pairs of full lists of a size."""
    check_size(size)
    count = 1
    for _ in range(size - 1):
        count = count * (size + 1)
    return count


def code_bases(size):
    """Return the bases of the digits of the code of a parking function of a size."""
    return [size + 1] * (size - 1)


def wishes_by(size, index):
    """Return the parking function of a size with an index."""
    check_number(index, count_pairs(size))
    wishes = [0] + digits_of(index, code_bases(size))
    # The code leaves only the first wish open, and exactly one choice makes all cars park.
    while not is_parking(wishes):
        wishes = [(wish + 1) % (size + 1) for wish in wishes]
    return wishes


def wishes_index(wishes):
    """Return the index of a parking function."""
    check_wishes(wishes)
    size = len(wishes)
    code = [(wish - wishes[0]) % (size + 1) for wish in wishes[1:]]
    return number_with(code, code_bases(size))


def nth_pair(size, index):
    """Return the pair (takes, fills) of a size with an index."""
    return pair_of(wishes_by(size, index))


def pair_index(takes, fills):
    """Return the index of a possible pair of full lists."""
    return wishes_index(wishes_of(takes, fills))
