"""Texts of place lists and of schedules."""

from leftreturn.checks import MOST_PLACES, check_places, check_size, is_place
from leftreturn.errors import InvalidSchedule, InvalidText
from leftreturn.schedules import MOST_OPERATIONS, run_schedule

OPERATIONS = {"t": "take", "r": "return"}


def numbers_text(numbers):
    """Return numbers, separated by single spaces."""
    return " ".join([str(number) for number in numbers])


def operations_text(operations):
    """Return a word for each operation, separated by single spaces."""
    return " ".join([word[0] + str(number) for word, number in operations])


def format_places(places):
    """Return the text of a place list."""
    check_places(places)
    return numbers_text(places)


def format_schedule(size, schedule):
    """Return the text of a schedule for a size."""
    run_schedule(size, schedule)
    return operations_text(schedule)


def read_number(text):
    """Return the number with a decimal text without leading zeros, or None if it is not one."""
    if not (text.isascii() and text.isdigit()) or (text[0] == "0" and text != "0"):
        return None
    number = 0
    # Digit by digit, as int refuses a text of some thousand digits.
    for digit in text:
        number = number * 10 + int(digit)
    return number


def read_operation(word):
    """Return the operation with a word, or None if it is not the word of one."""
    number = read_number(word[1:])
    if number is None or word[0] not in OPERATIONS:
        return None
    return (OPERATIONS[word[0]], number)


def words_of(text, most):
    """Return the words of a text, or raise InvalidText if it is not a text of at most so many."""
    if not isinstance(text, str):
        raise InvalidText(None)
    words = text.split(" ") if text != "" else []
    if len(words) > most:
        raise InvalidText(None)
    return words


def parse_places(text):
    """Return the place list with a text."""
    places = []
    for index, word in enumerate(words_of(text, MOST_PLACES)):
        place = read_number(word)
        if not is_place(place) or place in places:
            raise InvalidText(index)
        places.append(place)
    return places


def parse_schedule(size, text):
    """Return the schedule for a size with a text."""
    check_size(size)
    # A word that is none of an operation becomes an item that is none: so the first wrong item
    # has the index of the first wrong word.
    schedule = [read_operation(word) for word in words_of(text, MOST_OPERATIONS)]
    try:
        run_schedule(size, schedule)
    except InvalidSchedule as wrong:
        raise InvalidText(wrong.index) from None
    return schedule
