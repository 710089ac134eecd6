"""Tests of leftreturn.schedules: points 5 and 11, and points 2, 3 and 10 for this module."""

import copy
import itertools
import random
import unittest

from leftreturn import schedules
from leftreturn.errors import InvalidSchedule, InvalidSize
from leftreturn.schedules import books_after, books_out, is_schedule, most_out, places_filled
from tests import reference

RAISING = [books_after, books_out, places_filled, most_out]
ALL = [is_schedule] + RAISING


def turns(book, count):
    """Return a schedule that takes a book and returns it, as long as told."""
    return [("take" if at % 2 == 0 else "return", book) for at in range(count)]


class SchedulesTest(unittest.TestCase):

    def assert_wrong(self, size, schedule, index):
        """Each function finds the first wrong item of a value, or None."""
        self.assertIs(is_schedule(size, schedule), False)
        for function in RAISING:
            with self.assertRaises(InvalidSchedule) as caught:
                function(size, schedule)
            self.assertIs(type(caught.exception), InvalidSchedule)
            self.assertEqual(caught.exception.index, index)
            self.assertIsNot(caught.exception.index, False)

    def assert_right(self, size, schedule, answers):
        self.assertIs(is_schedule(size, schedule), True)
        self.assertEqual([function(size, schedule) for function in RAISING], answers)

    def test_functions_are_defined_here(self):
        for function in ALL:
            self.assertEqual(function.__module__, "leftreturn.schedules")
            self.assertIs(getattr(schedules, function.__name__), function)

    def test_examples(self):
        self.assertEqual(books_after(4, [("take", 2), ("take", 0), ("return", 2)]), [2, 1, None, 3])
        self.assertEqual(books_out(4, [("take", 2), ("take", 0), ("return", 2)]), [0])
        self.assertEqual(
            places_filled(4, [("take", 2), ("take", 0), ("return", 2), ("return", 0)]), [0, 2])
        self.assertEqual(most_out(4, [("take", 2), ("return", 2), ("take", 1)]), 1)
        with self.assertRaises(InvalidSchedule) as caught:
            books_after(2, [("take", 0), ("return", 1)])
        self.assertEqual(caught.exception.index, 1)

    def test_empty_schedule(self):
        self.assert_right(3, [], [[0, 1, 2], [], [], 0])
        self.assert_right(1, (), [[0], [], [], 0])

    def test_least_and_greatest_size(self):
        self.assert_right(1, [("take", 0)], [[None], [0], [], 1])
        self.assert_right(1, [("take", 0), ("return", 0)], [[0], [], [0], 1])
        self.assert_wrong(1, [("take", 1)], 0)
        self.assert_right(200, [("take", 199)], [list(range(199)) + [None], [199], [], 1])
        self.assert_wrong(200, [("take", 0), ("take", 200)], 1)

    def test_schedules_of_400_and_401_operations(self):
        self.assert_right(1, turns(0, 399), [[None], [0], [0] * 199, 1])
        self.assert_right(1, turns(0, 400), [[0], [], [0] * 200, 1])
        self.assert_wrong(1, turns(0, 401), None)
        self.assert_wrong(1, tuple(turns(0, 401)), None)
        # The length decides before the items do.
        self.assert_wrong(1, [None] * 401, None)
        self.assert_wrong(1, [None] * 400, 0)
        self.assert_wrong(1, turns(0, 399) + [("take", 0)], 399)

    def test_all_200_books_out(self):
        takes = [("take", place) for place in range(200)]
        self.assert_right(200, takes, [[None] * 200, list(range(200)), [], 200])
        backwards = takes + [("return", book) for book in range(199, -1, -1)]
        self.assert_right(200, backwards, [list(range(199, -1, -1)), [], list(range(200)), 200])

    def test_the_leftmost_gap_is_filled(self):
        schedule = [("take", 3), ("take", 1), ("return", 3), ("take", 0), ("return", 0), ("return", 1)]
        self.assert_right(4, schedule, [[0, 3, 2, 1], [], [1, 0, 3], 2])

    def test_books_out_are_ascending(self):
        self.assertEqual(books_out(4, [("take", 3), ("take", 0), ("take", 2)]), [0, 2, 3])

    def test_a_book_is_taken_from_the_place_where_it_stands(self):
        schedule = [("take", 1), ("take", 0), ("return", 1), ("take", 0)]
        self.assert_right(2, schedule, [[None, None], [0, 1], [0], 2])
        self.assert_wrong(2, schedule[:3] + [("take", 1)], 3)
        self.assert_wrong(2, schedule[:3] + [("return", 1)], 3)

    def test_invalid_sizes(self):
        for size in reference.any_items() + [0, 201, [1], (3,), 10 ** 30]:
            # A wrong size comes first, whatever the schedule is.
            for schedule in [[], [("take", 0)], [None], None]:
                for function in ALL:
                    with self.subTest(size=size, function=function.__name__):
                        with self.assertRaises(InvalidSize) as caught:
                            function(size, schedule)
                        self.assertIs(type(caught.exception), InvalidSize)

    def test_values_that_are_no_lists(self):
        for value in reference.any_values():
            with self.subTest(value=value):
                self.assert_wrong(3, value, None)

    def test_items_that_are_no_operations(self):
        wrong = reference.any_items() + [
            0, ("take",), ("take", 0, 0), ("take", 0, None), ("put", 0), ("Take", 0), ("", 0),
            (0, "take"), (b"take", 0), (["take"], 0), (None, 0), ("take", "0"), ("take", [0]),
            ("take", True), ("take", False), ("return", True), ("return", False), "t0", ["take", (0,)],
            {"take": 0, "return": 1}, {"take", 0},
        ]
        for item in wrong:
            with self.subTest(item=item):
                self.assert_wrong(3, [item], 0)
                self.assert_wrong(3, [("take", 0), ("take", 1), item], 2)
                self.assert_wrong(3, (("take", 0), item, item, ("return", 0)), 1)

    def test_operations_that_are_not_possible(self):
        self.assert_wrong(3, [("take", -1)], 0)
        self.assert_wrong(3, [("take", 3)], 0)
        self.assert_wrong(3, [("take", 10 ** 39)], 0)
        self.assert_wrong(3, [("take", -10 ** 39)], 0)
        self.assert_wrong(3, [("take", 0), ("take", 0)], 1)
        self.assert_wrong(3, [("return", 0)], 0)
        self.assert_wrong(3, [("take", 2), ("return", -1)], 1)
        self.assert_wrong(3, [("take", 2), ("return", 10 ** 39)], 1)
        self.assert_wrong(3, [("take", 0), ("return", 0), ("return", 0), ("take", 0)], 2)
        # The first wrong item counts, not the worst one.
        self.assert_wrong(3, [("take", 0), ("return", 1), None], 1)
        self.assert_wrong(3, [("take", 0), None, ("return", 1)], 1)

    def test_lists_and_tuples(self):
        answers = [[2, 1, None, 3], [0], [0], 2]
        for outer, inner in itertools.product([list, tuple], repeat=2):
            schedule = outer([inner(["take", 2]), inner(["take", 0]), inner(["return", 2])])
            self.assert_right(4, schedule, answers)
            for function in RAISING[:3]:
                self.assertIs(type(function(4, schedule)), list)

    def test_arguments_are_left_as_they_were(self):
        for schedule in [[["take", 2], ["take", 0], ["return", 2]], [["take", 0], ["take", 0]], [[["x"]]]]:
            before = copy.deepcopy(schedule)
            for function in ALL:
                try:
                    function(4, schedule)
                except InvalidSchedule:
                    pass
                self.assertEqual(schedule, before)

    def test_results_are_new(self):
        schedule = [("take", 2), ("take", 0), ("return", 2)]
        for function in RAISING[:3]:
            first = function(4, schedule)
            again = list(first)
            first.append("mine")
            self.assertEqual(function(4, schedule), again)

    def test_an_argument_that_is_changed_is_judged_anew(self):
        schedule = [["take", 2], ["take", 0]]
        self.assert_right(3, schedule, [[None, 1, None], [0, 2], [], 2])
        schedule[1][1] = 1
        self.assert_right(3, schedule, [[0, None, None], [1, 2], [], 2])
        schedule[1][1] = 2
        self.assert_wrong(3, schedule, 1)
        schedule[1][0] = "return"
        self.assert_right(3, schedule, [[0, 1, 2], [], [2], 1])

    def compare(self, size, schedule):
        index, *answers = reference.run_operations(size, schedule)
        if index is None:
            self.assert_right(size, schedule, answers)
        else:
            self.assert_wrong(size, schedule, index)

    def test_all_short_schedules(self):
        for size, longest in [(1, 5), (2, 4), (3, 3)]:
            operations = [(word, number) for word in ("take", "return") for number in range(-1, size + 1)]
            for length in range(longest + 1):
                for schedule in itertools.product(operations, repeat=length):
                    self.compare(size, schedule)

    def test_long_schedules(self):
        chance = random.Random(11)
        for size in [2, 5, 9, 40, 200]:
            for _ in range(6):
                schedule = []
                while len(schedule) < 60:
                    operation = (chance.choice(["take", "return"]), chance.randrange(size))
                    if reference.run_operations(size, schedule + [operation])[0] is None:
                        schedule.append(operation)
                self.compare(size, schedule)
                self.compare(size, schedule + schedule[:1] + schedule[:1])


if __name__ == "__main__":
    unittest.main()
