"""Schedules of takes and returns on a shelf."""

from leftreturn.checks import check_size, is_listed, is_whole
from leftreturn.errors import InvalidSchedule

MOST_OPERATIONS = 400


class Shelf:
    """The books at the places of a shelf, None at a gap, and the books that are out."""

    def __init__(self, size):
        self.books = list(range(size))
        self.out = []

    def can_take(self, place):
        """Return whether any value is a place with a book."""
        return is_whole(place) and 0 <= place < len(self.books) and self.books[place] is not None

    def can_return(self, book):
        """Return whether any value is a book that is out."""
        return is_whole(book) and book in self.out

    def first_gap(self):
        """Return the leftmost gap of a shelf that has one."""
        return self.books.index(None)

    def take_from(self, place):
        """Take the book at a place that has one, and return the book."""
        book = self.books[place]
        self.books[place] = None
        self.out.append(book)
        return book

    def put_back(self, book):
        """Put a book that is out into the leftmost gap, and return this place."""
        place = self.first_gap()
        self.books[place] = book
        self.out.remove(book)
        return place

    def revert_take(self, place):
        """Put the book that was taken last back to the place from which it was taken."""
        self.books[place] = self.out.pop()

    def revert_return(self, place, number):
        """Make the book at a place the one with a number among the books that are out."""
        self.out.insert(number, self.books[place])
        self.books[place] = None


def can_perform(shelf, value):
    """Return whether any value is an operation that is possible on a shelf now."""
    if not is_listed(value) or len(value) != 2 or not isinstance(value[0], str):
        return False
    word, number = value
    if word == "take":
        return shelf.can_take(number)
    return word == "return" and shelf.can_return(number)


def run_schedule(size, schedule):
    """Return the shelf after a schedule, the list of places filled and the most books out."""
    check_size(size)
    if not is_listed(schedule) or len(schedule) > MOST_OPERATIONS:
        raise InvalidSchedule(None)
    shelf = Shelf(size)
    filled = []
    most = 0
    for index, operation in enumerate(schedule):
        if not can_perform(shelf, operation):
            raise InvalidSchedule(index)
        word, number = operation
        if word == "take":
            shelf.take_from(number)
        else:
            filled.append(shelf.put_back(number))
        most = max(most, len(shelf.out))
    return shelf, filled, most


def is_schedule(size, value):
    """Return whether any value is a schedule for a size."""
    try:
        run_schedule(size, value)
    except InvalidSchedule:
        return False
    return True


def books_after(size, schedule):
    """Return the list of the books at the places after a schedule, None at a gap."""
    shelf, _, _ = run_schedule(size, schedule)
    return shelf.books


def books_out(size, schedule):
    """Return the ascending list of the books that are out after a schedule."""
    shelf, _, _ = run_schedule(size, schedule)
    return sorted(shelf.out)


def places_filled(size, schedule):
    """Return the list of the places into which books are returned, in this order."""
    _, filled, _ = run_schedule(size, schedule)
    return filled


def most_out(size, schedule):
    """Return the greatest number of books that are out at the same time."""
    _, _, most = run_schedule(size, schedule)
    return most
