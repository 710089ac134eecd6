"""Tests of leftreturn.orders: points 27 and 28, and points 2 to 5 and 10 for this module."""

import inspect
import itertools
import random
import unittest
from math import factorial

from leftreturn import orders
from leftreturn.errors import InvalidNumber, InvalidOrder, InvalidSchedule
from leftreturn.orders import (
    all_sorting, count_sorting, cycles_of, is_sorting, nth_sorting, sorting_index, sorting_schedule)
from leftreturn.schedules import books_after, most_out
from tests import cases, reference, sorting

FOUR = [3, 2, 0, 1]
# What FOUR is reached by, as it is numbered.
FIRST = [("take", 0), ("take", 3), ("return", 3), ("take", 2), ("return", 0), ("take", 1),
         ("return", 2), ("return", 1)]
SECOND = [("take", 3), ("take", 0), ("return", 3), ("take", 2), ("return", 0), ("take", 1),
          ("return", 2), ("return", 1)]
SWAPPED = [("take", 0), ("take", 1), ("return", 1), ("return", 0)]
BACKWARDS = list(range(199, -1, -1))


def calls_with(order, index=0, schedule=()):
    """Call each function with an order."""
    return [
        lambda: cycles_of(order), lambda: is_sorting(order, schedule), lambda: sorting_schedule(order),
        lambda: count_sorting(order), lambda: nth_sorting(order, index),
        lambda: list(all_sorting(order)), lambda: sorting_index(order, schedule),
    ]


def first_sorting(order, count):
    """Return the first items of all_sorting."""
    return list(itertools.islice(all_sorting(order), count))


def random_orders(chance):
    """Return orders of many sizes, with few and with many cycles."""
    found = [sorting.swaps(200), BACKWARDS, list(range(1, 200)) + [0], [199] + list(range(199))]
    for size in [7, 8, 20, 199, 200, 200, 200]:
        order = list(range(size))
        chance.shuffle(order)
        found.append(order)
        part = list(order[:size // 2])
        found.append([other for other in range(size) if other not in part] + sorted(part)[::-1])
    return found


class OrdersTest(cases.Case):

    def assert_numbered(self, order, count, indices):
        """The schedules with these ascending indices sort to an order, ascend, and have these indices."""
        self.assertEqual(count_sorting(order), count)
        taken = []
        for index in indices:
            schedule = nth_sorting(order, index)
            self.assertTrue(sorting.sorts_by_text(order, schedule))
            self.assertIs(is_sorting(order, schedule), True)
            self.assertEqual(sorting_index(order, schedule), index)
            self.assertEqual(books_after(len(order), schedule), list(order))
            self.assertLessEqual(most_out(len(order), schedule), 2)
            taken.append(sorting.taken_places(schedule))
        self.assertEqual(taken, sorted(taken))
        self.assertEqual(len(set(map(tuple, taken))), len(indices))
        for index in [-1, -count - 1, count, count + 1, 10 ** 500]:
            self.assert_raises_exactly(InvalidNumber, [lambda: nth_sorting(order, index)])

    def assert_not_sorting(self, order, value):
        self.assertIs(is_sorting(order, value), False)
        self.assert_raises_with(
            InvalidSchedule, "index", None, [lambda: sorting_index(order, value)])

    def test_functions_are_defined_here(self):
        for name in ["cycles_of", "is_sorting", "sorting_schedule", "count_sorting", "nth_sorting",
                     "all_sorting", "sorting_index"]:
            self.assertEqual(getattr(orders, name).__module__, "leftreturn.orders")

    def test_examples(self):
        self.assertEqual(cycles_of([3, 2, 0, 1]), [[0, 3, 1, 2]])
        self.assertEqual(sorting_schedule([1, 0]), SWAPPED)
        self.assertIs(
            is_sorting([1, 0], [("take", 1), ("take", 0), ("return", 1), ("return", 0)]), True)
        self.assertEqual(
            [count_sorting([1, 0]), count_sorting([3, 2, 0, 1]), count_sorting([1, 0, 3, 2]),
             count_sorting([0, 1])], [2, 2, 8, 1])
        self.assertEqual(
            list(all_sorting([1, 0])),
            [SWAPPED, [("take", 1), ("take", 0), ("return", 1), ("return", 0)]])
        self.assertEqual(nth_sorting([3, 2, 0, 1], 1), SECOND)

    def test_the_example_of_four_books(self):
        self.assertEqual(list(all_sorting(FOUR)), [FIRST, SECOND])
        self.assertEqual(sorting_schedule(FOUR), FIRST)
        self.assertEqual([sorting_index(FOUR, FIRST), sorting_index(FOUR, SECOND)], [0, 1])
        self.assert_numbered(FOUR, 2, [0, 1])

    def test_two_cycles_in_any_order(self):
        found = list(all_sorting([1, 0, 3, 2]))
        self.assertEqual(
            [sorting.taken_places(schedule) for schedule in found],
            [[0, 1, 2, 3], [0, 1, 3, 2], [1, 0, 2, 3], [1, 0, 3, 2],
             [2, 3, 0, 1], [2, 3, 1, 0], [3, 2, 0, 1], [3, 2, 1, 0]])
        self.assertEqual(found[0], SWAPPED + [("take", 2), ("take", 3), ("return", 3), ("return", 2)])
        self.assertEqual([sorting_index([1, 0, 3, 2], schedule) for schedule in found], list(range(8)))
        # The cycles of 0 and 3 and of 1 and 2 lie within each other.
        self.assertEqual(
            [sorting.taken_places(schedule) for schedule in all_sorting([3, 2, 1, 0])],
            [[0, 3, 1, 2], [0, 3, 2, 1], [1, 2, 0, 3], [1, 2, 3, 0],
             [2, 1, 0, 3], [2, 1, 3, 0], [3, 0, 1, 2], [3, 0, 2, 1]])

    def test_cycles(self):
        self.assertEqual(cycles_of([1, 2, 0]), [[0, 1, 2]])
        self.assertEqual(cycles_of([2, 0, 1]), [[0, 2, 1]])
        self.assertEqual(cycles_of([0, 4, 3, 2, 1]), [[1, 4], [2, 3]])
        self.assertEqual(cycles_of([5, 1, 4, 0, 2, 3]), [[0, 5, 3], [2, 4]])
        self.assertEqual(cycles_of(BACKWARDS), [[place, 199 - place] for place in range(100)])
        self.assertEqual(cycles_of(list(range(1, 200)) + [0]), [list(range(200))])
        for order in random_orders(random.Random(27)):
            self.assertEqual(cycles_of(order), sorting.cycles_by_text(order))

    def test_the_order_without_misplaced_books(self):
        for size in [1, 2, 3, 199, 200]:
            order = list(range(size))
            self.assertEqual(cycles_of(order), [])
            self.assertEqual(sorting_schedule(order), [])
            self.assertEqual(list(all_sorting(order)), [[]])
            self.assert_numbered(order, 1, [0])
            self.assertEqual(sorting_index(order, ()), 0)
            self.assert_not_sorting(order, [("take", 0), ("return", 0)])
            self.assert_not_sorting(order, [("take", 0)])

    def test_books_at_their_places_stay(self):
        order = [0, 2, 1, 3]
        right = [("take", 1), ("take", 2), ("return", 2), ("return", 1)]
        self.assertEqual(sorting_schedule(order), right)
        self.assert_not_sorting(order, right + [("take", 3), ("return", 3)])
        self.assert_not_sorting(order, [("take", 0), ("return", 0)] + right)

    def test_schedules_that_do_not_sort(self):
        # Not complete, another order, a book taken twice, and three books out.
        self.assert_not_sorting([1, 0], SWAPPED[:3])
        self.assert_not_sorting([1, 0], [])
        self.assert_not_sorting([1, 0], SWAPPED + SWAPPED)
        self.assert_not_sorting([1, 0], [("take", 0), ("return", 0)] + SWAPPED)
        self.assert_not_sorting([1, 0], SWAPPED + [("take", 1), ("return", 0)])
        self.assert_not_sorting([0, 1], SWAPPED)
        self.assert_not_sorting([1, 2, 0], SWAPPED)
        three = [("take", 0), ("take", 1), ("take", 2), ("return", 1), ("return", 2), ("return", 0)]
        self.assertEqual(books_after(3, three), [1, 2, 0])
        self.assert_not_sorting([1, 2, 0], three)
        self.assertIs(is_sorting([1, 0, 2], SWAPPED), True)

    def test_a_book_that_belongs_to_the_only_gap_is_returned_first(self):
        order = [1, 0, 3, 2]
        late = SWAPPED[:3] + [("take", 3), ("return", 0), ("take", 2), ("return", 3), ("return", 2)]
        self.assertEqual(books_after(4, late), order)
        self.assertEqual(most_out(4, late), 2)
        self.assert_not_sorting(order, late)
        soon = SWAPPED + [("take", 3), ("take", 2), ("return", 3), ("return", 2)]
        self.assertIs(is_sorting(order, soon), True)
        self.assertEqual(sorting_index(order, soon), 1)

    def test_values_that_are_no_schedules(self):
        wrong = reference.any_items() + [
            0, 1, "t0", "t0 t1 r1 r0", [SWAPPED], {0: SWAPPED}, SWAPPED[:3] + [None], [None] + SWAPPED,
            SWAPPED[:3] + [("return", False)], [("take", False)] + SWAPPED[1:], SWAPPED + [("return", 0)],
            SWAPPED + [("take", 2)], [("take", 0), ("return", 1)], [("put", 0)], [("take",)], [("take", "0")],
            [("take", 0), ("take", 1), ("return", 1), ("return", 0, 0)], [("take", 0), ("take", 0)],
            [("take", 0), ("return", 0)] * 201, [None] * 401, tuple(SWAPPED) * 101,
        ]
        for value in wrong:
            with self.subTest(value=value):
                self.assert_not_sorting([1, 0], value)
                self.assert_not_sorting((1, 0), value)

    def test_invalid_orders_come_first(self):
        for order in sorting.wrong_orders():
            with self.subTest(order=order):
                for index, schedule in [(0, []), (None, None), (-1, [None]), (True, SWAPPED), (10 ** 99, "")]:
                    self.assert_raises_exactly(InvalidOrder, calls_with(order, index, schedule))
                self.assert_raises_exactly(InvalidOrder, [lambda: next(all_sorting(order))])

    def test_invalid_numbers(self):
        for value in reference.any_items() + [-1, 2, 3, 10 ** 39, 10 ** 900, -10 ** 900, "0", [0], (0,)]:
            with self.subTest(value=value):
                self.assert_raises_exactly(InvalidNumber, [
                    lambda: nth_sorting([1, 0], value), lambda: nth_sorting(tuple(FOUR), value)])
        self.assert_raises_exactly(InvalidNumber, [
            lambda: nth_sorting([0], 1), lambda: nth_sorting([0], False), lambda: nth_sorting([0], -1)])

    def test_least_and_greatest_size(self):
        self.assertEqual(cycles_of([0]), [])
        last = list(range(198)) + [199, 198]
        self.assertEqual(cycles_of(last), [[198, 199]])
        self.assertEqual(
            sorting_schedule(last), [("take", 198), ("take", 199), ("return", 199), ("return", 198)])
        self.assert_numbered(last, 2, [0, 1])

    def test_200_books(self):
        up = list(range(1, 200)) + [0]
        schedule = [("take", 0)]
        for place in range(1, 200):
            schedule += [("take", place), ("return", place)]
        schedule.append(("return", 0))
        self.assertEqual(len(schedule), 400)
        self.assertEqual(sorting_schedule(up), schedule)
        self.assertEqual(sorting_index(up, schedule), 0)
        self.assert_numbered(up, sorting.count_by_text(up), [0, 1, 2 ** 100, count_sorting(up) - 1])
        down = [199] + list(range(199))
        self.assert_numbered(down, sorting.count_by_text(down), [0, count_sorting(down) - 1])

    def test_indices_of_many_digits(self):
        chance = random.Random(28)
        for order in random_orders(chance):
            count = sorting.count_by_text(order)
            indices = {chance.randrange(count) for _ in range(6)} | {0, count // 2, count - 1}
            self.assert_numbered(order, count, sorted(indices))
        self.assertEqual(count_sorting(sorting.swaps(200)), factorial(100) * 2 ** 100)
        self.assertEqual(count_sorting(BACKWARDS), factorial(100) * 2 ** 100)
        self.assertEqual(
            sorting.taken_places(nth_sorting(sorting.swaps(200), factorial(100) * 2 ** 100 - 1)),
            list(range(199, -1, -1)))
        self.assertEqual(
            sorting.taken_places(sorting_schedule(sorting.swaps(200))), list(range(200)))

    def test_long_generators_start_at_once(self):
        for order in [sorting.swaps(200), BACKWARDS, list(range(1, 200)) + [0]]:
            found = first_sorting(order, 5)
            self.assertEqual(found, [nth_sorting(order, index) for index in range(5)])

    def test_generator(self):
        self.assertTrue(inspect.isgenerator(all_sorting([0])))
        self.assertTrue(inspect.isgeneratorfunction(all_sorting))
        order = [1, 0, 3, 2]
        expected = [list(schedule) for schedule in all_sorting([1, 0, 3, 2])]
        found = all_sorting(order)
        seen = []
        # Neither the caller's order nor its schedules are used again.
        for schedule in found:
            seen.append(list(schedule))
            schedule.clear()
            order[:] = [0, 1, 2, 3]
        self.assertEqual(seen, expected)

    def test_lists_and_tuples(self):
        for one, other in itertools.product([list, tuple], repeat=2):
            order = one(FOUR)
            schedule = other([one(operation) for operation in SECOND])
            self.assertIs(is_sorting(order, schedule), True)
            self.assertEqual(sorting_index(order, schedule), 1)
            self.assertEqual(cycles_of(order), [[0, 3, 1, 2]])
            self.assertEqual(sorting_schedule(order), FIRST)
            self.assertEqual(nth_sorting(order, 1), SECOND)
            self.assertEqual(list(all_sorting(order)), [FIRST, SECOND])
            self.assertEqual(count_sorting(order), 2)
            for found in [cycles_of(order), cycles_of(order)[0], sorting_schedule(order),
                          nth_sorting(order, 1), next(all_sorting(order))]:
                self.assertIs(type(found), list)
            self.assertEqual({type(operation) for operation in sorting_schedule(order)}, {tuple})

    def test_results_are_new(self):
        for call in [lambda: cycles_of(FOUR), lambda: sorting_schedule(FOUR), lambda: nth_sorting(FOUR, 1),
                     lambda: cycles_of(FOUR)[0], lambda: next(all_sorting(FOUR))]:
            first = call()
            again = list(first)
            first.append("mine")
            self.assertEqual(call(), again)
        found = cycles_of(FOUR)
        found[0].clear()
        self.assertEqual(cycles_of(FOUR), [[0, 3, 1, 2]])
        found = list(all_sorting(FOUR))
        found[0].clear()
        self.assertEqual(list(all_sorting(FOUR)), [FIRST, SECOND])

    def test_arguments_are_left_as_they_were(self):
        for order in [[1, 0], [3, 2, 0, 1], [0, 1, 2], [1, 1], [[0]]]:
            for schedule in [[list(item) for item in SWAPPED], [["take", 0], ["take", [0]]], [[["x"]]]]:
                self.assert_left_alone([order, schedule], calls_with(order, 0, schedule))

    def test_arguments_that_are_changed_are_judged_anew(self):
        order = [1, 0]
        schedule = [list(operation) for operation in SWAPPED]
        self.assertIs(is_sorting(order, schedule), True)
        order.append(2)
        self.assertIs(is_sorting(order, schedule), True)
        schedule[2:] = [["return", 0], ["return", 1]]
        self.assertIs(is_sorting(order, schedule), False)
        order.reverse()
        self.assertEqual(cycles_of(order), [[0, 2, 1]])
        self.assertEqual(count_sorting(order), sorting.count_by_text(order))


if __name__ == "__main__":
    unittest.main()
