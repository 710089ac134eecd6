"""Checks of arguments that several modules share."""

from leftreturn.errors import InvalidNumber, InvalidOrder, InvalidPair, InvalidPattern
from leftreturn.errors import InvalidPlaces, InvalidSize

MOST_SIZE = 200
MOST_PLACES = 200
GREATEST_PLACE = 10 ** 30


def is_whole(value):
    """Return whether any value is an integer; True and False are not."""
    return isinstance(value, int) and not isinstance(value, bool)


def is_listed(value):
    """Return whether any value can stand where a list or a tuple is asked for."""
    return isinstance(value, (list, tuple))


def is_number(value, count):
    """Return whether any value is an integer from 0 to a count minus 1."""
    return is_whole(value) and 0 <= value < count


def check_number(value, count):
    """Raise InvalidNumber unless a value is the number of one of so many things."""
    if not is_number(value, count):
        raise InvalidNumber("no thing has this number")


def check_size(size):
    """Raise InvalidSize unless a value is a size."""
    if not (is_whole(size) and 1 <= size <= MOST_SIZE):
        raise InvalidSize("a size is an integer from 1 to 200")


def is_place(value):
    """Return whether any value can be an item of a place list."""
    return is_whole(value) and 0 <= value <= GREATEST_PLACE


def is_place_list(value):
    """Return whether any value is a place list."""
    if not is_listed(value) or len(value) > MOST_PLACES:
        return False
    # Only integers can be relied on to be members of a set.
    return all([is_place(item) for item in value]) and len(set(value)) == len(value)


def check_places(value):
    """Raise InvalidPlaces unless a value is a place list."""
    if not is_place_list(value):
        raise InvalidPlaces("a place list has at most 200 different integers from 0 to 10 ** 30")


def is_full_list(value):
    """Return whether any value is a full list of at least one place."""
    return is_place_list(value) and len(value) > 0 and max(value) == len(value) - 1


def check_full_places(value):
    """Raise InvalidPlaces unless a value is a full list of at least one place."""
    if not is_full_list(value):
        raise InvalidPlaces("a full list has each place from 0 up to its size minus 1")


def check_order(value):
    """Raise InvalidOrder unless a value is an order of the books."""
    if not is_full_list(value):
        raise InvalidOrder("an order has each book from 0 up to its size minus 1 once")


def check_same_places(first, second):
    """Raise InvalidPair unless two place lists have the same places."""
    if sorted(first) != sorted(second):
        raise InvalidPair("the two lists do not have the same places")


def check_pair(takes, fills):
    """Raise InvalidPlaces or InvalidPair unless two values are a pair."""
    check_places(takes)
    check_places(fills)
    check_same_places(takes, fills)


def is_pattern(value):
    """Return whether any value is a pattern."""
    if not isinstance(value, str) or value.count("T") > MOST_PLACES:
        return False
    out = 0
    for letter in value:
        if letter == "T":
            out += 1
        elif letter == "R" and out > 0:
            out -= 1
        else:
            return False
    return out == 0


def check_pattern_for(takes, pattern):
    """Raise InvalidPattern unless a value is a pattern that takes each place of a list."""
    if not is_pattern(pattern) or pattern.count("T") != len(takes):
        raise InvalidPattern("not a pattern with a letter T for each place")
