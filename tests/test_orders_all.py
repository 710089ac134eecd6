"""All orders of a few books, with all schedules that sort to them, found by trying: points 4 (d), 27, 28."""

import itertools
import random
import unittest

from leftreturn.errors import InvalidNumber
from leftreturn.orders import (
    all_sorting, count_sorting, cycles_of, is_sorting, nth_sorting, sorting_index, sorting_schedule)
from leftreturn.schedules import books_after, is_schedule, most_out
from tests import cases, reference, sorting


def random_schedule(chance, size, books):
    """Return a schedule that mostly keeps to the given books, often a complete one."""
    schedule = []
    out = []
    todo = list(books)
    while todo or out:
        shelf = reference.run_operations(size, schedule)[1]
        if todo and (not out or chance.random() < 0.5):
            book = todo.pop(chance.randrange(len(todo)))
            schedule.append(("take", shelf.index(book)))
            out.append(book)
        else:
            schedule.append(("return", out.pop(chance.randrange(len(out)))))
        if chance.random() < 0.03:
            break
    return schedule


class AllOrdersTest(cases.Case):

    def assert_order(self, order, expected):
        """The schedules that sort to an order are these, in this order."""
        # Point 4 (d): each order can be reached.
        self.assertGreater(len(expected), 0)
        self.assertEqual(list(all_sorting(order)), expected)
        self.assertEqual(count_sorting(order), len(expected))
        self.assertEqual(sorting.count_by_text(order), len(expected))
        self.assertEqual(sorting_schedule(order), expected[0])
        self.assertEqual(cycles_of(order), sorting.cycles_by_text(order))
        for index, schedule in enumerate(expected):
            self.assertEqual(nth_sorting(order, index), schedule)
            self.assertEqual(sorting_index(order, schedule), index)
            self.assertIs(is_sorting(order, schedule), True)
        for index in [-1, len(expected)]:
            self.assert_raises_exactly(InvalidNumber, [lambda: nth_sorting(order, index)])

    def test_all_orders(self):
        for size in range(1, 6):
            found = sorting.sorting_schedules(size)
            for order in itertools.permutations(range(size)):
                self.assert_order(order, found[order])

    def test_all_schedules_that_take_each_book_once(self):
        for size in range(1, 5):
            everything = sorting.schedules_taking_once(size, range(size))
            for order in itertools.permutations(range(size)):
                for _, schedule in everything:
                    self.assertIs(is_sorting(order, schedule), sorting.sorts_by_text(order, schedule))

    def test_all_short_schedules(self):
        for size, longest in [(1, 4), (2, 5), (3, 4)]:
            operations = [(word, number) for word in ("take", "return") for number in range(size)]
            for length in range(longest + 1):
                for schedule in itertools.product(operations, repeat=length):
                    possible = reference.run_operations(size, schedule)[0] is None
                    for order in itertools.permutations(range(size)):
                        expected = possible and sorting.sorts_by_text(order, schedule)
                        self.assertIs(is_sorting(order, schedule), expected)

    def test_random_schedules(self):
        chance = random.Random(4)
        for _ in range(1500):
            size = chance.randrange(2, 8)
            schedule = random_schedule(chance, size, chance.sample(range(size), chance.randrange(size + 1)))
            self.assertTrue(is_schedule(size, schedule))
            after = books_after(size, schedule)
            for order in [list(range(size)), chance.sample(range(size), size)] + [after] * (None not in after):
                self.assertIs(is_sorting(order, schedule), sorting.sorts_by_text(order, schedule))

    def test_schedules_that_were_changed(self):
        chance = random.Random(5)
        for _ in range(600):
            size = chance.randrange(2, 9)
            order = chance.sample(range(size), size)
            schedule = nth_sorting(order, chance.randrange(count_sorting(order)))
            if schedule:
                at, other = chance.randrange(len(schedule)), chance.randrange(len(schedule))
                schedule[at], schedule[other] = schedule[other], schedule[at]
            possible = reference.run_operations(size, schedule)[0] is None
            expected = possible and sorting.sorts_by_text(order, schedule)
            self.assertIs(is_sorting(order, schedule), expected)

    def test_with_one_book_out_only_the_first_order_is_reached(self):
        for size in range(1, 5):
            turns = [[("take", book), ("return", book)] for book in range(size)]
            for length in range(4):
                for chosen in itertools.product(turns, repeat=length):
                    schedule = [operation for turn in chosen for operation in turn]
                    self.assertLessEqual(most_out(size, schedule), 1)
                    self.assertEqual(books_after(size, schedule), list(range(size)))
        for order in itertools.permutations(range(4)):
            expected = 0 if order == (0, 1, 2, 3) else 2
            for schedule in all_sorting(order):
                self.assertEqual(most_out(4, schedule), expected)


if __name__ == "__main__":
    unittest.main()
