"""A console that controls a live shelf line by line."""

from leftreturn.errors import InvalidCommand
from leftreturn.live import LiveShelf
from leftreturn.texts import numbers_text, operations_text, read_number


def text_or_none(text):
    """Return a text, or the word for an empty one."""
    return text if text != "" else "none"


def undo_last(live):
    """Revert the last take or return, and return the answer."""
    live.undo()
    return "ok"


def show_books(live):
    """Return the books, place by place, with a sign for a gap."""
    return " ".join(["-" if book is None else str(book) for book in live.current_books()])


def show_gaps(live):
    """Return the gaps, or the word for none."""
    return text_or_none(numbers_text(live.current_gaps()))


def show_out(live):
    """Return the books that are out, or the word for none."""
    return text_or_none(numbers_text(live.current_out()))


def show_schedule(live):
    """Return the text of the schedule, or the word for none."""
    return text_or_none(operations_text(live.current_schedule()))


def show_size(live):
    """Return the size of the shelf."""
    return str(len(live.current_books()))


ANSWERS = {
    "undo": undo_last,
    "books": show_books,
    "gaps": show_gaps,
    "out": show_out,
    "schedule": show_schedule,
    "size": show_size,
}


def read_line(line):
    """Return the word and the number of any value that is a line; the number is None without one."""
    if not isinstance(line, str):
        raise InvalidCommand("a line is a string")
    if line in ANSWERS:
        return line, None
    word, _, rest = line.partition(" ")
    number = read_number(rest)
    if word not in ("take", "return") or number is None:
        raise InvalidCommand("no line of the console")
    return word, number


class Console:
    """A console with a live shelf of a size."""

    def __init__(self, size):
        self._live = LiveShelf(size)

    def execute(self, line):
        """Carry out a line, and return its answer."""
        word, number = read_line(line)
        if word == "take":
            return str(self._live.take_book(number))
        if word == "return":
            return str(self._live.return_book(number))
        answer = ANSWERS[word]
        return answer(self._live)
