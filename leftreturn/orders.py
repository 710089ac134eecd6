"""Orders of the books, and the schedules that reach them with at most two books out.

Such a schedule treats the cycles of the order one after another. While it treats a cycle, the
places that are not finished are neighbours in it: the first of them is the only gap, and the book
that is out belongs to the last one.
"""

from math import factorial

from leftreturn.checks import check_number, check_order
from leftreturn.errors import InvalidSchedule
from leftreturn.schedules import Shelf, is_schedule


def cycles_of(order):
    """Return the list of the cycles of an order, each as a list of places."""
    check_order(order)
    seen = [False] * len(order)
    cycles = []
    for first in range(len(order)):
        cycle = []
        place = first
        while not seen[place]:
            seen[place] = True
            cycle.append(place)
            place = order[place]
        if len(cycle) > 1:
            cycles.append(cycle)
    return cycles


def can_finish_gap(order, shelf):
    """Return whether the book that belongs to the leftmost gap of a shelf is out."""
    return len(shelf.out) > 0 and order[shelf.first_gap()] in shelf.out


def sorts_to(order, schedule):
    """Return whether a schedule for the size of an order sorts to it."""
    shelf = Shelf(len(order))
    taken = []
    for word, number in schedule:
        if word == "return":
            shelf.put_back(number)
        elif len(shelf.out) == 2 or can_finish_gap(order, shelf):
            return False
        else:
            taken.append(shelf.take_from(number))
    misplaced = [book for place, book in enumerate(order) if place != book]
    return shelf.books == list(order) and sorted(taken) == sorted(misplaced)


def is_sorting(order, value):
    """Return whether any value is a schedule that sorts to an order."""
    check_order(order)
    return is_schedule(len(order), value) and sorts_to(order, value)


def next_takes(places, gap, left):
    """Return the ascending list of (place, next gap): what can be taken next, and where that leads.

    So many places of a cycle are left, from the gap on; gaps are told by their index in the cycle.
    """
    after = (gap + 1) % len(places)
    home = (gap + left - 1) % len(places)
    takes = []
    if places[home] < places[gap]:
        takes.append((places[home], gap))
    if places[after] > places[gap]:
        takes.append((places[after], after))
    return takes


def ways_to_finish(places):
    """Return a row for each number of places that are left: in how many ways a cycle is finished.

    Item g of the row with index m is for the gap at index g of the cycle and m + 1 places left.
    """
    rows = [[1] * len(places)]
    for left in range(2, len(places) + 1):
        later = rows[-1]
        rows.append([
            sum([later[then] for _, then in next_takes(places, gap, left)])
            for gap in range(len(places))
        ])
    return rows


class Cycle:
    """The places of a cycle, and the numbers of ways in which it can be treated."""

    def __init__(self, places):
        self.places = places
        self.rows = ways_to_finish(places)
        self.total = sum(self.rows[-1])


def read_cycles(order):
    """Return the list of the cycles of an order, as objects."""
    return [Cycle(places) for places in cycles_of(order)]


def count_ways_of(cycles):
    """Return in how many ways some cycles can be treated, one after another in any order."""
    count = factorial(len(cycles))
    for cycle in cycles:
        count = count * cycle.total
    return count


def first_takes(cycles):
    """Return the ascending list of (place, cycle, gap, ways) of the takes that some cycles begin with.

    The cycle is told by its index, the gap by its index in the cycle.
    """
    in_all = count_ways_of(cycles)
    takes = []
    for number, cycle in enumerate(cycles):
        for_others = in_all // (len(cycles) * cycle.total)
        for gap, place in enumerate(cycle.places):
            takes.append((place, number, gap, cycle.rows[-1][gap] * for_others))
    return sorted(takes)


def find_group(counts, index):
    """Return the number of the group in which a thing is, and its index there, by its index in all.

    The groups have so many things, one group after another.
    """
    group = 0
    rest = index
    while rest >= counts[group]:
        rest = rest - counts[group]
        group += 1
    return group, rest


def find_place(takes, place):
    """Return the index of the take of a place among tuples that begin with the places taken."""
    return [take[0] for take in takes].index(place)


def takes_of_cycle(cycle, gap, index):
    """Return the places that are taken if a cycle begins with a gap, in the way with an index."""
    takes = [cycle.places[gap]]
    now = gap
    rest = index
    for left in reversed(range(2, len(cycle.places) + 1)):
        coming = next_takes(cycle.places, now, left)
        choice, rest = find_group([cycle.rows[left - 2][then] for _, then in coming], rest)
        place, now = coming[choice]
        takes.append(place)
    return takes


def index_in_cycle(cycle, gap, takes):
    """Return the index of the way in which a cycle that begins with a gap takes these places."""
    index = 0
    now = gap
    for done in range(1, len(takes)):
        left = len(takes) + 1 - done
        coming = next_takes(cycle.places, now, left)
        choice = find_place(coming, takes[done])
        index = index + sum([cycle.rows[left - 2][then] for _, then in coming[:choice]])
        _, now = coming[choice]
    return index


def takes_at(cycles, index):
    """Return the list of the places that are taken if cycles are treated in the way with an index."""
    takes = []
    waiting = list(cycles)
    rest = index
    while len(waiting) > 0:
        coming = first_takes(waiting)
        choice, rest = find_group([ways for _, _, _, ways in coming], rest)
        _, number, gap, _ = coming[choice]
        cycle = waiting.pop(number)
        way, rest = divmod(rest, count_ways_of(waiting))
        takes.extend(takes_of_cycle(cycle, gap, way))
    return takes


def index_of_takes(cycles, takes):
    """Return the index of the way in which cycles are treated if these places are taken."""
    index = 0
    waiting = list(cycles)
    done = 0
    while len(waiting) > 0:
        coming = first_takes(waiting)
        choice = find_place(coming, takes[done])
        index = index + sum([ways for _, _, _, ways in coming[:choice]])
        _, number, gap, _ = coming[choice]
        cycle = waiting.pop(number)
        mine = takes[done:done + len(cycle.places)]
        index = index + index_in_cycle(cycle, gap, mine) * count_ways_of(waiting)
        done = done + len(mine)
    return index


def schedule_with(order, takes):
    """Return the schedule that sorts to an order and takes these places."""
    shelf = Shelf(len(order))
    schedule = []
    for place in takes:
        shelf.take_from(place)
        schedule.append(("take", place))
        # It returns each book as soon as it can, as it may not take another one before.
        while can_finish_gap(order, shelf):
            book = order[shelf.first_gap()]
            shelf.put_back(book)
            schedule.append(("return", book))
    return schedule


def sorting_schedule(order):
    """Return the first schedule that sorts to an order."""
    return nth_sorting(order, 0)


def count_sorting(order):
    """Return the number of the schedules that sort to an order."""
    return count_ways_of(read_cycles(order))


def nth_sorting(order, index):
    """Return the schedule with an index among those that sort to an order."""
    cycles = read_cycles(order)
    check_number(index, count_ways_of(cycles))
    return schedule_with(order, takes_at(cycles, index))


def all_sorting(order):
    """Yield the schedules that sort to an order, in the order of their numbers."""
    cycles = read_cycles(order)
    # The caller may change the list while the generator waits.
    books = list(order)
    for index in range(count_ways_of(cycles)):
        yield schedule_with(books, takes_at(cycles, index))


def sorting_index(order, schedule):
    """Return the index of a schedule among those that sort to an order."""
    if not is_sorting(order, schedule):
        raise InvalidSchedule(None)
    takes = [number for word, number in schedule if word == "take"]
    return index_of_takes(read_cycles(order), takes)
