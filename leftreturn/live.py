"""A shelf whose books are taken and returned one by one, with undo."""

from leftreturn.checks import check_size, is_number
from leftreturn.errors import InvalidBook, InvalidPlace, NothingToUndo
from leftreturn.schedules import Shelf, run_schedule


def perform_all(live, operations):
    """Perform operations on a live shelf, each of which is possible then."""
    for word, number in operations:
        if word == "take":
            live.take_book(number)
        else:
            live.return_book(number)


class LiveShelf:
    """A shelf of a size, with the takes and returns since the beginning."""

    MOST_SIZE = 200

    def __init__(self, size):
        check_size(size)
        self._shelf = Shelf(size)
        # Each step is (operation, place of the book, its number among the books out).
        self._steps = []

    def __len__(self):
        """Return the number of the takes and returns that have not been reverted."""
        return len(self._steps)

    def __eq__(self, other):
        """Return whether any value is a live shelf with the same books at the same places."""
        return isinstance(other, LiveShelf) and self._shelf.books == other._shelf.books

    @classmethod
    def from_schedule(cls, size, schedule):
        """Return a live shelf on which the operations of a schedule have been performed."""
        run_schedule(size, schedule)
        live = cls(size)
        perform_all(live, schedule)
        return live

    @property
    def is_complete(self):
        """True if no book is out, otherwise False."""
        return len(self._shelf.out) == 0

    def take_book(self, place):
        """Take the book at a place, and return it."""
        if not self._shelf.can_take(place):
            raise InvalidPlace("not a place with a book")
        number = len(self._shelf.out)
        self._steps.append((("take", place), place, number))
        return self._shelf.take_from(place)

    def return_book(self, book):
        """Return a book that is out to the leftmost gap, and return this place."""
        if not self._shelf.can_return(book):
            raise InvalidBook("not a book that is out")
        number = self._shelf.out.index(book)
        place = self._shelf.put_back(book)
        self._steps.append((("return", book), place, number))
        return place

    def undo(self):
        """Revert the last take or return that has not been reverted."""
        if len(self._steps) == 0:
            raise NothingToUndo("no take or return can be reverted")
        operation, place, number = self._steps.pop()
        if operation[0] == "take":
            self._shelf.revert_take(place)
        else:
            self._shelf.revert_return(place, number)

    def current_books(self):
        """Return the list of the books at the places, None at a gap."""
        return list(self._shelf.books)

    def current_gaps(self):
        """Return the ascending list of the gaps."""
        return [place for place, book in enumerate(self._shelf.books) if book is None]

    def current_out(self):
        """Return the list of the books that are out, in the order in which they were taken."""
        return list(self._shelf.out)

    def place_of(self, book):
        """Return the place of a book, or None if it is out."""
        if not is_number(book, len(self._shelf.books)):
            raise InvalidBook("not a book of this shelf")
        if book in self._shelf.out:
            return None
        return self._shelf.books.index(book)

    def current_schedule(self):
        """Return the takes and returns that have not been reverted, as a schedule."""
        return [operation for operation, _, _ in self._steps]

    def duplicate(self):
        """Return an independent live shelf with the same books and the same schedule."""
        live = LiveShelf(len(self._shelf.books))
        # There may be more operations than from_schedule accepts.
        perform_all(live, self.current_schedule())
        return live
