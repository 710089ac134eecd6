"""What the document says of new orders, followed word by word, and values for the tests.

Nothing here uses the package, so that the tests compare two independent answers.
"""

from functools import lru_cache
from itertools import combinations
from math import factorial, prod

from tests import reference


def wrong_orders():
    """Return values that are not orders of any size."""
    return reference.any_values() + [
        "", 0, 1, [], (), [1], (1,), [0, 0], [0, 2], (1, 2), [-1, 0], [0, 1, 3], [0, 1, 1], [3, 2, 1],
        [True], [False], [0, True], [False, 1], [None], [0, None], ["0"], [0, "1"], [b"0"], [[0]], [(0,)],
        [{}], [{0}], [0, [1]], [[0, 1]], reference.nested(19), list(range(201)), tuple(range(201)),
        list(range(200, -1, -1)), [0] * 201, list(range(1, 201)), list(range(199)) + [200], [0, 10 ** 39],
        [10 ** 39], {0: 0, 1: 1}, {0, 1}, "01", "10", b"\x00\x01",
    ]


def swaps(size):
    """Return the order in which neighbours have changed places, two by two."""
    return [place ^ 1 for place in range(size)]


def taken_places(schedule):
    """Return the list of the places that a schedule takes."""
    return [number for word, number in schedule if word == "take"]


def cycles_by_text(order):
    """Return the list of the cycles of an order."""
    found = []
    for first in range(len(order)):
        cycle = [first]
        while order[cycle[-1]] != first:
            cycle.append(order[cycle[-1]])
        if len(cycle) > 1 and first == min(cycle):
            found.append(cycle)
    return found


def sorts_by_text(order, schedule):
    """Return whether a schedule for the size of an order sorts to it."""
    size = len(order)
    shelf = {place: place for place in range(size)}
    times_taken = {book: 0 for book in range(size)}
    for word, number in schedule:
        gaps = [place for place in range(size) if place not in shelf]
        out = set(range(size)) - set(shelf.values())
        if word == "take":
            if len(gaps) == 1 and out == {order[gaps[0]]}:
                return False
            times_taken[shelf.pop(number)] += 1
        else:
            shelf[gaps[0]] = number
        if size - len(shelf) > 2:
            return False
    return all(shelf.get(place) == order[place] for place in range(size)) and all(
        times_taken[order[place]] == (0 if order[place] == place else 1) for place in range(size))


def schedules_taking_once(size, books):
    """Return (books at the end, schedule) of all complete schedules that take each of books once.

    Never are more than two books out.
    """
    found = []

    def extend(shelf, out, todo, schedule):
        if not out and not todo:
            found.append((tuple(shelf), schedule))
        if len(out) < 2:
            for book in todo:
                place = shelf.index(book)
                extend(shelf[:place] + [None] + shelf[place + 1:], out + [book],
                       [other for other in todo if other != book], schedule + [("take", place)])
        for book in out:
            gap = shelf.index(None)
            extend(shelf[:gap] + [book] + shelf[gap + 1:],
                   [other for other in out if other != book], todo, schedule + [("return", book)])

    extend(list(range(size)), [], list(books), [])
    return found


def sorting_schedules(size):
    """Return a dict from each order of a size to the list of its schedules, as they are numbered."""
    found = {}
    for count in range(size + 1):
        for books in combinations(range(size), count):
            for order, schedule in schedules_taking_once(size, books):
                if sorts_by_text(order, schedule):
                    found.setdefault(order, []).append(schedule)
    return {order: sorted(found[order], key=taken_places) for order in found}


def count_cycle(order, cycle):
    """Return the number of ways to treat one cycle, by the moves of point 28."""
    place_for = {book: place for place, book in enumerate(order)}

    @lru_cache(maxsize=None)
    def count(gap, home):
        if gap == home:
            return 1
        ways = 0
        if order[gap] > gap:
            ways += count(order[gap], home)
        if home < gap:
            ways += count(gap, place_for[home])
        return ways

    return sum(count(place, place_for[place]) for place in cycle)


def count_by_text(order):
    """Return the number of the schedules that sort to an order, which may be a long one."""
    cycles = cycles_by_text(order)
    return factorial(len(cycles)) * prod(count_cycle(order, cycle) for cycle in cycles)
