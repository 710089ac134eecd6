"""Tests of leftreturn.live: point 29, and points 2, 3, 5, 10 and 11 for this module."""

import copy
import itertools
import random
import unittest

from leftreturn.errors import InvalidBook, InvalidPlace, InvalidSchedule, InvalidSize, NothingToUndo
from leftreturn.live import LiveShelf
from leftreturn.schedules import books_after, books_out
from tests import cases, reference
from tests.live_model import Model

METHODS = ["take_book", "return_book", "undo", "current_books", "current_gaps", "current_out",
           "place_of", "current_schedule", "duplicate"]


def state(live):
    """Return a copy of all that can be seen of a live shelf."""
    size = len(live.current_books())
    return copy.deepcopy([
        live.current_books(), live.current_gaps(), live.current_out(), live.current_schedule(),
        len(live), live.is_complete, [live.place_of(book) for book in range(size)]])


def turns(book, count):
    """Return a schedule that takes a book and returns it, as long as told."""
    return [("take" if at % 2 == 0 else "return", book) for at in range(count)]


class AlwaysEqual:

    def __eq__(self, other):
        return True


class LiveShelfTest(cases.Case):

    def assert_as_model(self, live, model):
        """A live shelf shows all that its schedule determines."""
        books = model.books()
        places = [books.index(book) if book in books else None for book in range(model.size)]
        self.assertEqual(state(live), [
            books, model.gaps(), model.out(), model.operations, len(model.operations),
            None not in books, places])
        self.assertIs(type(live.is_complete), bool)
        self.assertEqual({type(operation) for operation in live.current_schedule()} - {tuple}, set())

    def assert_unchanged_by(self, live, kind, calls):
        """Each call raises an error of this very class, and nothing changes."""
        before = state(live)
        for call in calls:
            self.assert_raises_exactly(kind, [call])
            self.assertEqual(state(live), before)

    def assert_all_undone(self, live, size):
        while len(live) > 0:
            self.assertIsNone(live.undo())
        self.assertEqual(state(live), state(LiveShelf(size)))
        self.assert_unchanged_by(live, NothingToUndo, [live.undo])

    def test_members_are_defined_in_the_class(self):
        self.assertEqual(LiveShelf.__module__, "leftreturn.live")
        for name in METHODS + ["from_schedule", "is_complete", "MOST_SIZE", "__len__", "__eq__", "__init__"]:
            self.assertIn(name, vars(LiveShelf))
        self.assertIs(type(vars(LiveShelf)["from_schedule"]), classmethod)
        self.assertIs(type(vars(LiveShelf)["is_complete"]), property)

    def test_examples(self):
        shelf = LiveShelf.from_schedule(3, [("take", 2), ("return", 2), ("take", 1)])
        self.assertEqual(
            [LiveShelf.MOST_SIZE, shelf.is_complete, shelf.current_books(), len(shelf)],
            [200, False, [0, None, 2], 3])
        shelf = LiveShelf(3)
        self.assertEqual(
            [shelf.take_book(2), shelf.take_book(0), shelf.return_book(2), shelf.current_books(),
             shelf.current_out()], [2, 0, 0, [2, 1, None], [0]])

    def test_beginning(self):
        for size in [1, 2, 199, 200]:
            live = LiveShelf(size)
            self.assertEqual(
                state(live), [list(range(size)), [], [], [], 0, True, list(range(size))])
            self.assertEqual(live.MOST_SIZE, 200)
            self.assert_all_undone(live, size)

    def test_invalid_sizes(self):
        for size in reference.any_items() + [0, 201, [1], (3,), 10 ** 30]:
            with self.subTest(size=size):
                self.assert_raises_exactly(InvalidSize, [lambda: LiveShelf(size)])
                # A wrong size comes first, whatever the schedule is.
                for schedule in [[], [("take", 0)], [None], None, [("take", 0)] * 401]:
                    self.assert_raises_exactly(
                        InvalidSize, [lambda: LiveShelf.from_schedule(size, schedule)])

    def test_invalid_schedules(self):
        for value in reference.any_values():
            self.assert_raises_with(
                InvalidSchedule, "index", None, [lambda: LiveShelf.from_schedule(3, value)])
        for item in reference.any_items() + [
                0, ("take",), ("take", 0, 0), ("put", 0), ("take", "0"), ("take", True), ("take", 3), ("take", -1),
                ("return", 1), ("return", False), ("take", 2), "t0", "t1"]:
            with self.subTest(item=item):
                self.assert_raises_with(InvalidSchedule, "index", 1, [
                    lambda: LiveShelf.from_schedule(3, [("take", 2), item]),
                    lambda: LiveShelf.from_schedule(3, (["take", 2], item, None))])
        self.assert_raises_with(InvalidSchedule, "index", None, [
            lambda: LiveShelf.from_schedule(1, turns(0, 401)), lambda: LiveShelf.from_schedule(1, [None] * 401)])

    def test_from_schedule(self):
        for one, other in itertools.product([list, tuple], repeat=2):
            schedule = one([other(["take", 2]), one(["take", 0]), other(["return", 2])])
            live = LiveShelf.from_schedule(4, schedule)
            self.assertIs(type(live), LiveShelf)
            self.assertEqual(live.current_books(), [2, 1, None, 3])
            self.assertEqual(live.current_schedule(), [("take", 2), ("take", 0), ("return", 2)])
            self.assertEqual({type(operation) for operation in live.current_schedule()}, {tuple})
            self.assert_all_undone(live, 4)
        self.assertEqual(state(LiveShelf.from_schedule(5, [])), state(LiveShelf(5)))
        self.assertEqual(state(LiveShelf.from_schedule(5, ())), state(LiveShelf(5)))

    def test_schedules_of_400_operations(self):
        live = LiveShelf.from_schedule(1, turns(0, 400))
        self.assertEqual([len(live), live.is_complete, live.current_books()], [400, True, [0]])
        self.assertEqual(live.current_schedule(), turns(0, 400))
        self.assert_all_undone(live, 1)
        backwards = [("take", place) for place in range(200)] + [
            ("return", book) for book in range(199, -1, -1)]
        live = LiveShelf.from_schedule(200, backwards)
        self.assertEqual(live.current_books(), list(range(199, -1, -1)))
        self.assertEqual(live.current_out(), [])
        live.undo()
        self.assertEqual([live.current_out(), live.current_gaps()], [[0], [199]])

    def test_operations_behind_a_schedule_of_400(self):
        live = LiveShelf.from_schedule(2, turns(0, 400))
        for count in range(300):
            self.assertEqual(live.take_book(1) if count % 2 == 0 else live.return_book(1), 1)
        self.assertEqual(live.current_schedule(), turns(0, 400) + turns(1, 300))
        self.assertEqual(state(live.duplicate()), state(live))
        self.assert_all_undone(live.duplicate(), 2)
        self.assertEqual(len(live), 700)
        # Points 5 and 11: a list of more than 400 operations is no schedule.
        self.assert_raises_with(
            InvalidSchedule, "index", None, [lambda: LiveShelf.from_schedule(2, live.current_schedule())])

    def test_take_and_return(self):
        live = LiveShelf(4)
        self.assertEqual([live.take_book(3), live.take_book(1), live.return_book(3)], [3, 1, 1])
        self.assertEqual(live.current_books(), [0, 3, 2, None])
        # The book at a place is taken, not the one with its number.
        self.assertEqual(live.take_book(1), 3)
        self.assertEqual(live.current_out(), [1, 3])
        self.assertEqual([live.return_book(1), live.return_book(3)], [1, 3])
        self.assertEqual(state(live)[:3], [[0, 1, 2, 3], [], []])
        self.assertIs(live.is_complete, True)
        self.assertEqual(len(live), 6)

    def test_books_out_are_in_the_order_of_their_takes(self):
        live = LiveShelf(5)
        for place in [3, 0, 4, 1]:
            live.take_book(place)
        self.assertEqual(live.current_out(), [3, 0, 4, 1])
        self.assertEqual(live.current_gaps(), [0, 1, 3, 4])
        live.return_book(0)
        self.assertEqual(live.current_out(), [3, 4, 1])
        # After an undo it has its old place among them, after another take the last one.
        live.undo()
        self.assertEqual(live.current_out(), [3, 0, 4, 1])
        live.return_book(0)
        live.take_book(0)
        self.assertEqual(live.current_out(), [3, 4, 1, 0])
        live.undo()
        live.undo()
        self.assertEqual(live.current_out(), [3, 0, 4, 1])
        live.return_book(3)
        live.undo()
        live.return_book(1)
        live.undo()
        self.assertEqual(live.current_out(), [3, 0, 4, 1])

    def test_undo_puts_a_book_back_where_it_was(self):
        live = LiveShelf(3)
        live.take_book(0)
        live.take_book(2)
        live.undo()
        # The leftmost gap is another one.
        self.assertEqual(live.current_books(), [None, 1, 2])
        live.take_book(2)
        live.return_book(2)
        live.undo()
        self.assertEqual(state(live), [[None, 1, None], [0, 2], [0, 2], [("take", 0), ("take", 2)], 2, False,
                                       [None, 1, None]])
        self.assertIsNone(live.undo())
        self.assertEqual(len(live), 1)

    def test_invalid_places(self):
        live = LiveShelf.from_schedule(3, [("take", 1)])
        wrong = reference.any_items() + [-1, 1, 3, 10 ** 39, -10 ** 39, "0", [0], (0,), ("take", 0)]
        self.assert_unchanged_by(
            live, InvalidPlace, [lambda value=value: live.take_book(value) for value in wrong])
        self.assertEqual(live.take_book(0), 0)

    def test_invalid_books_to_return(self):
        live = LiveShelf.from_schedule(3, [("take", 1), ("take", 0), ("return", 1), ("take", 2), ("return", 0)])
        self.assertEqual([live.current_books(), live.current_out()], [[1, 0, None], [2]])
        wrong = reference.any_items() + [-1, 0, 1, 3, 10 ** 39, -10 ** 39, "2", [2], (2,)]
        self.assert_unchanged_by(
            live, InvalidBook, [lambda value=value: live.return_book(value) for value in wrong])
        self.assertEqual(live.return_book(2), 2)
        self.assert_unchanged_by(live, InvalidBook, [lambda: live.return_book(2)])
        live = LiveShelf.from_schedule(2, [("take", 1), ("take", 0)])
        self.assert_unchanged_by(
            live, InvalidBook, [lambda: live.return_book(True), lambda: live.return_book(False)])

    def test_place_of(self):
        live = LiveShelf.from_schedule(3, [("take", 2), ("take", 0), ("return", 2)])
        self.assertEqual([live.place_of(0), live.place_of(1), live.place_of(2)], [None, 1, 0])
        wrong = reference.any_items() + [-1, 3, 10 ** 39, -10 ** 39, "0", [0], (0,)]
        self.assert_unchanged_by(
            live, InvalidBook, [lambda value=value: live.place_of(value) for value in wrong])
        self.assertEqual(LiveShelf(200).place_of(199), 199)
        self.assert_raises_exactly(InvalidBook, [lambda: LiveShelf(200).place_of(200)])

    def test_is_complete_cannot_be_set(self):
        live = LiveShelf(2)
        for value in [True, False, None]:
            with self.assertRaises(AttributeError):
                live.is_complete = value
            self.assertIs(live.is_complete, True)
        live.take_book(0)
        with self.assertRaises(AttributeError):
            live.is_complete = True
        self.assertIs(live.is_complete, False)
        live.return_book(0)
        self.assertIs(live.is_complete, True)

    def test_nothing_to_undo(self):
        live = LiveShelf(2)
        self.assert_unchanged_by(live, NothingToUndo, [live.undo, live.undo])
        live.take_book(0)
        live.undo()
        self.assert_unchanged_by(live, NothingToUndo, [live.undo])
        # An operation that raised an error is none that can be reverted.
        self.assert_raises_exactly(InvalidPlace, [lambda: live.take_book(2)])
        self.assert_unchanged_by(live, NothingToUndo, [live.undo])

    def assert_equality(self, first, second, expected):
        self.assertIs(first == second, expected)
        self.assertIs(second == first, expected)
        self.assertIs(first != second, not expected)
        self.assertIs(second != first, not expected)

    def test_equality(self):
        self.assert_equality(LiveShelf(3), LiveShelf(3), True)
        self.assert_equality(LiveShelf(3), LiveShelf(4), False)
        one = LiveShelf.from_schedule(4, [("take", 0), ("take", 2)])
        other = LiveShelf.from_schedule(4, [("take", 2), ("take", 0)])
        self.assertNotEqual(one.current_out(), other.current_out())
        self.assert_equality(one, other, True)
        # The schedules may differ as well.
        other.take_book(3)
        self.assert_equality(one, other, False)
        other.return_book(2)
        self.assert_equality(one, other, False)
        other.undo()
        other.undo()
        self.assert_equality(one, other, True)
        self.assert_equality(LiveShelf.from_schedule(2, turns(1, 8)), LiveShelf(2), True)
        self.assert_equality(LiveShelf.from_schedule(2, turns(1, 9)), LiveShelf(2), False)
        swapped = LiveShelf.from_schedule(2, [("take", 0), ("take", 1), ("return", 1), ("return", 0)])
        self.assert_equality(swapped, LiveShelf(2), False)
        # The same gaps and the same number of books, but another one is out.
        self.assert_equality(LiveShelf.from_schedule(3, [("take", 0), ("take", 1), ("return", 1)]),
                             LiveShelf.from_schedule(3, [("take", 1)]), False)

    def test_equal_to_nothing_else(self):
        live = LiveShelf(1)
        for value in reference.any_items() + [0, 1, [0], (0,), "LiveShelf(1)", LiveShelf, live.current_books]:
            self.assert_equality(live, value, False)
        self.assertIs(live == AlwaysEqual(), False)
        self.assertIs(live == live, True)

    def test_duplicate(self):
        live = LiveShelf.from_schedule(4, [("take", 3), ("take", 0), ("take", 2), ("return", 0)])
        copied = live.duplicate()
        self.assertIs(type(copied), LiveShelf)
        self.assertIsNot(copied, live)
        self.assertEqual(state(copied), state(live))
        self.assert_equality(copied, live, True)
        before = state(live)
        # Neither one changes the other.
        copied.undo()
        self.assertEqual(copied.current_out(), [3, 0, 2])
        copied.take_book(1)
        self.assertEqual(state(live), before)
        before = state(copied)
        live.return_book(2)
        live.return_book(3)
        self.assertEqual(state(copied), before)
        self.assert_all_undone(copied, 4)
        self.assertEqual(len(live), 6)
        self.assertEqual(state(LiveShelf(7).duplicate()), state(LiveShelf(7)))

    def test_duplicates_of_one_shelf_are_independent(self):
        live = LiveShelf.from_schedule(2, [("take", 1)])
        first, second = live.duplicate(), live.duplicate()
        first.take_book(0)
        self.assertEqual(second.current_books(), [0, None])
        self.assertEqual(live.duplicate().duplicate().current_books(), [0, None])
        one, other = LiveShelf(2), LiveShelf(2)
        one.take_book(0)
        self.assertEqual(len(other), 0)

    def test_results_are_new(self):
        live = LiveShelf.from_schedule(4, [("take", 3), ("take", 0), ("return", 3)])
        before = state(live)
        for call in [live.current_books, live.current_gaps, live.current_out, live.current_schedule]:
            found = call()
            self.assertIs(type(found), list)
            found.append("mine")
            found.reverse()
            self.assertEqual(state(live), before)
        live.undo()
        live.return_book(3)
        self.assertEqual(state(live), before)

    def test_arguments_are_copied(self):
        schedule = [["take", 1], ["take", 0]]
        live = LiveShelf.from_schedule(2, schedule)
        self.assertEqual(schedule, [["take", 1], ["take", 0]])
        schedule[0][1] = 0
        schedule[1][0] = "return"
        schedule.clear()
        self.assertEqual(live.current_schedule(), [("take", 1), ("take", 0)])
        live.undo()
        self.assertEqual(live.current_books(), [0, None])
        arguments = [[["take", 1], ["take", 1]]]
        self.assert_left_alone(arguments, [lambda: LiveShelf.from_schedule(2, arguments[0])])

    def test_schedules_agree_with_the_functions(self):
        live = LiveShelf.from_schedule(6, [("take", 5), ("take", 1), ("return", 5), ("take", 0)])
        self.assertEqual(books_after(6, live.current_schedule()), live.current_books())
        self.assertEqual(books_out(6, live.current_schedule()), sorted(live.current_out()))
        again = LiveShelf.from_schedule(6, live.current_schedule())
        self.assertEqual(state(again), state(live))

    def test_300_operations(self):
        chance = random.Random(29)
        for size in [1, 2, 5, 30, 200]:
            live, model = LiveShelf(size), Model(size)
            for step in range(300):
                if model.operations and chance.random() < 0.3:
                    self.assertIsNone(live.undo())
                    model.operations.pop()
                else:
                    word, number = model.choose(chance)
                    method = live.take_book if word == "take" else live.return_book
                    self.assertEqual(method(number), model.perform((word, number)))
                if step % 7 == 0 or size < 6:
                    self.assert_as_model(live, model)
            self.assert_as_model(live.duplicate(), model)
            self.assert_as_model(LiveShelf.from_schedule(size, live.current_schedule()), model)
            self.assert_all_undone(live, size)

    def test_errors_between_operations(self):
        chance = random.Random(30)
        live, model = LiveShelf(6), Model(6)
        for _ in range(60):
            places, books = model.impossible()
            self.assert_unchanged_by(
                live, InvalidPlace, [lambda place=place: live.take_book(place) for place in places])
            self.assert_unchanged_by(
                live, InvalidBook, [lambda book=book: live.return_book(book) for book in books])
            word, number = model.choose(chance)
            method = live.take_book if word == "take" else live.return_book
            self.assertEqual(method(number), model.perform((word, number)))
            self.assert_as_model(live, model)


if __name__ == "__main__":
    unittest.main()
