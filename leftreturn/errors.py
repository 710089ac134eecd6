"""The errors that the package raises."""


class ShelfError(ValueError):
    """Any error of this package."""


class InvalidSize(ShelfError):
    """A size is not an integer from 1 to 200."""


class InvalidPlaces(ShelfError):
    """A value is not a place list, or not a full list where one is needed."""


class InvalidPair(ShelfError):
    """Two place lists do not have the same places."""


class InvalidPattern(ShelfError):
    """A value is not a pattern, or not one that fits the other arguments."""


class InvalidOrder(ShelfError):
    """A value is not an order of the books."""


class InvalidNumber(ShelfError):
    """An index is not the number of one of the things that are numbered."""


class InvalidFacts(ShelfError):
    """A value is not a list of facts about a pair."""


class InvalidOffsets(ShelfError):
    """A value is not a list of offsets for the fills."""


class InvalidWishes(ShelfError):
    """A value is not a parking function."""


class InvalidPlace(ShelfError):
    """A value is not a place with a book."""


class InvalidBook(ShelfError):
    """A value is not a book, or not one that is out where one is needed."""


class NothingToUndo(ShelfError):
    """There is no take or return that can be reverted."""


class InvalidCommand(ShelfError):
    """A value is not a line of the console."""


class InvalidSchedule(ShelfError):
    """A value is not a schedule; `index` is the first wrong item, or None."""

    def __init__(self, index):
        super().__init__("not a schedule")
        self.index = index


class Obstructed(ShelfError):
    """A pair is not possible; `reason` is its obstruction."""

    def __init__(self, reason):
        super().__init__("the pair is not possible")
        self.reason = reason


class Contradiction(ShelfError):
    """Facts are inconsistent; `indices` tells which of them."""

    def __init__(self, indices):
        super().__init__("the facts are inconsistent")
        self.indices = indices


class TooMany(ShelfError):
    """A list has too many places; `count` is their number."""

    def __init__(self, count):
        super().__init__("too many places")
        self.count = count


class InvalidText(ShelfError):
    """A value is not a text; `index` is the first wrong word, or None."""

    def __init__(self, index):
        super().__init__("not such a text")
        self.index = index
