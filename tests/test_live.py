"""A live post office: points 1, 10, 11 and 12."""

import copy
import inspect
import random
import unittest

import slow
from mailforwards.books import Book
from mailforwards.errors import (AlreadyOpen, InvalidAddress, InvalidNumber, InvalidOperation,
                                 InvalidOrder, MailError, NotHolding, UnknownLetter, UnknownOrder)
from mailforwards.letters import end
from mailforwards.live import LivePost
from samples import scattered_books
from wrong import ADDRESSES, LAST_DAY, NOT_ADDRESSES, NOT_DAYS, NOT_NUMBERS, NOT_WAYS, raised

TWO = Book(("a", "b", 0, 9, 1), ("b", "a", 5, 12, 2))
NOT_COUNTS = NOT_NUMBERS + [-1, -400, 401, 402, LAST_DAY, 10 ** 30]
NOT_OPERATIONS = [
    None, True, False, 0, 2, "", "post", "pa", (), [], ("post",), ("post", "a", "b"), ["post", "a"],
    ["pass_days", 1], ("posts", "a"), ("Post", "a"), ("post ", "a"), ("", "a"), ("undo", 1),
    ("redo", 1), ("apply", ("post", "a")), ("resting", 1), ("history", 1), ("__len__", 1),
    ("replay", 1), ("resting_after", ("post", "a")), (None, "a"), (True, "a"), (0, "a"),
    (1, 0), (["post"], "a"), (("post",), "a"), ([], []), ("a", "post"), (("post", "a"),),
    (("post", "a"), ("post", "a")),
]


def state(live):
    """All that can be read of a post office."""
    return (live.today, live.present_book.orders, live.resting, live.under_way, live.history,
            len(live), [live(letter) for letter in range(len(live))])


def futures(live):
    """How often undo and redo are possible; the post office stays as it is."""
    with live:
        undone = 0
        while live.undo():
            undone += 1
    with live:
        redone = []
        while live.redo():
            redone.append(state(live))
    return undone, redone


class Names(unittest.TestCase):

    def test_class_and_methods_are_defined_in_their_file(self):
        self.assertEqual(LivePost.__module__, "mailforwards.live")
        for name in ("post", "pass_days", "give", "stop", "__call__", "__len__", "today",
                     "present_book", "resting", "under_way", "history", "undo", "redo", "apply",
                     "replay", "resting_after", "__enter__", "__exit__", "__init__"):
            self.assertIn(name, vars(LivePost), name)

    def test_names_of_parameters(self):
        names = {"post": ["address"], "pass_days": ["count"], "give": ["order"], "stop": ["index"],
                 "undo": [], "redo": [], "apply": ["operations"], "resting_after": ["operations"],
                 "__call__": ["letter"]}
        for name, parameters in names.items():
            found = list(inspect.signature(getattr(LivePost, name)).parameters)
            self.assertEqual(found, ["self"] + parameters)
        self.assertEqual(list(inspect.signature(LivePost).parameters), ["book"])
        self.assertEqual(list(inspect.signature(LivePost.replay).parameters), ["book", "operations"])
        self.assertIsInstance(vars(LivePost)["replay"], classmethod)
        for name in ("today", "present_book", "resting", "under_way", "history"):
            self.assertIsInstance(vars(LivePost)[name], property)

    def test_kinds(self):
        live = LivePost(TWO)
        self.assertIs(type(live.post("a")), int)
        self.assertIs(type(live.pass_days(1)), list)
        self.assertIs(type(live.stop(0)), int)
        self.assertIs(type(live.give(("c", "a", 0, 1, 1))), int)
        self.assertIs(type(live(0)), tuple)
        self.assertIs(live(0)[2], True)
        self.assertIsInstance(live.present_book, Book)
        for found in (live.resting, live.under_way, live.history, live.apply(("post", "a")),
                      live.resting_after()):
            self.assertIs(type(found), list)
        self.assertIs(live.undo(), True)
        self.assertIs(live.redo(), True)
        self.assertIs(live.redo(), False)


class Beginning(unittest.TestCase):

    def test_day_0_without_letters(self):
        for book in (TWO, Book()):
            live = LivePost(book)
            self.assertEqual(state(live), (0, book.orders, [], [], [], 0, []))
            self.assertEqual([live.undo(), live.redo()], [False, False])

    def test_properties_cannot_be_assigned(self):
        live = LivePost(TWO)
        for name in ("today", "present_book", "resting", "under_way", "history"):
            with self.assertRaises(AttributeError):
                setattr(live, name, [])


class Letters(unittest.TestCase):

    def setUp(self):
        self.live = LivePost(TWO)

    def test_numbers_from_0(self):
        self.assertEqual([self.live.post(word) for word in "abcab"], [0, 1, 2, 3, 4])
        self.live.pass_days(3)
        self.assertEqual(self.live.post("a"), 5)
        self.assertEqual(len(self.live), 6)

    def test_a_letter_is_sent_on_or_rests_when_it_arrives(self):
        self.live.post("a")
        self.live.post("b")
        self.live.post("abcdefgh")
        self.assertEqual([self.live(letter) for letter in range(3)],
                         [("b", 1, False), ("b", 0, True), ("abcdefgh", 0, True)])
        self.assertEqual(self.live.resting, [(1, "b", 0), (2, "abcdefgh", 0)])
        self.assertEqual(self.live.under_way, [(0, "b", 1)])

    def test_days_pass(self):
        self.live.pass_days(4)
        self.live.post("a")
        found = []
        for _ in range(8):
            found.append((self.live.today, self.live(0), self.live.pass_days(1)))
        self.assertEqual(found, [(4, ("b", 5, False), []), (5, ("a", 7, False), []),
                                 (6, ("a", 7, False), []), (7, ("b", 8, False), []),
                                 (8, ("a", 10, False), []), (9, ("a", 10, False), [0]),
                                 (10, ("a", 10, True), []), (11, ("a", 10, True), [])])

    def test_many_days_at_once(self):
        self.live.pass_days(4)
        self.live.post("a")
        self.assertEqual(self.live.pass_days(5), [])
        self.assertEqual(self.live.under_way, [(0, "a", 10)])
        self.assertEqual(self.live.pass_days(400), [0])
        self.assertEqual([self.live.resting, self.live.today], [[(0, "a", 10)], 409])

    def test_no_days(self):
        self.live.post("a")
        before = state(self.live)
        self.assertEqual(self.live.pass_days(0), [])
        self.assertEqual(state(self.live)[:4], before[:4])
        self.assertEqual(self.live.history, [("post", "a"), ("pass_days", 0)])
        self.assertEqual([self.live.undo(), self.live.undo(), self.live.undo()], [True, True, False])

    def test_four_hundred_days(self):
        self.assertEqual(self.live.pass_days(400), [])
        self.assertEqual(self.live.pass_days(400), [])
        self.assertEqual(self.live.today, 800)
        live = LivePost(Book.chain(0, 399, 1, "a", "b", "a"))
        live.post("a")
        self.assertEqual(live.pass_days(399), [])
        self.assertEqual([live.pass_days(1), live(0)], [[0], ("a", 400, True)])
        live = LivePost(Book.chain(0, LAST_DAY, 1, "a", "b", "a"))
        live.post("a")
        self.assertEqual([live.pass_days(400), live(0)], [[], ("b", 401, False)])

    def test_wrong_numbers_of_days(self):
        self.live.post("a")
        before = state(self.live)
        for count in NOT_COUNTS:
            with self.subTest(count=count):
                raised(self, InvalidNumber, self.live.pass_days, count)
                self.assertEqual(state(self.live), before)

    def test_letters_come_to_rest_by_day_and_then_by_number(self):
        book = Book(("a", "d", 0, 99, 9), ("b", "d", 0, 99, 4), ("c", "d", 0, 99, 6))
        live = LivePost(book)
        for word in "abcabcd":
            live.post(word)
        live.pass_days(1)
        for word in "bca":
            live.post(word)
        # Letter 6 rests at once: it does not come to rest in days that pass.
        self.assertEqual(live.resting, [(6, "d", 0)])
        self.assertEqual(live.pass_days(20), [1, 4, 7, 2, 5, 8, 0, 3, 9])
        self.assertEqual([letter for letter, _, _ in live.resting], list(range(10)))
        self.assertEqual([day for _, _, day in live.resting], [9, 4, 6, 9, 4, 6, 0, 5, 7, 10])

    def test_letters_of_one_day_are_told_by_their_numbers(self):
        live = LivePost(Book(("a", "d", 0, 99, 3), ("b", "d", 0, 99, 2), ("c", "d", 0, 99, 1)))
        for word in "aaa":
            live.post(word)
        live.pass_days(1)
        live.post("b")
        live.pass_days(1)
        live.post("c")
        live.post("c")
        self.assertEqual(live.pass_days(1), [0, 1, 2, 3, 4, 5])

    def test_letters_that_rest_do_not_come_to_rest_again(self):
        self.live.post("a")
        self.assertEqual([self.live.pass_days(1), self.live.pass_days(30)], [[0], []])
        # An order for the address at which the letter rests begins later.
        self.assertEqual([self.live(0), self.live.resting], [("b", 1, True), [(0, "b", 1)]])

    def test_wrong_addresses(self):
        before = state(self.live)
        for word in NOT_ADDRESSES:
            with self.subTest(word=word):
                raised(self, InvalidAddress, self.live.post, word)
                self.assertEqual(state(self.live), before)
        for word in ADDRESSES:
            self.assertEqual(self.live(self.live.post(word))[2], word != "a")

    def test_unknown_letters(self):
        self.live.post("a")
        self.live.post("b")
        for letter in NOT_NUMBERS + [-1, -2, 2, 3, 10 ** 30]:
            with self.subTest(letter=letter):
                found = raised(self, UnknownLetter, self.live, letter).letter
                self.assertEqual((found, type(found)), (letter, type(letter)))
        self.assertEqual(raised(self, UnknownLetter, LivePost(TWO), 0).letter, 0)

    def test_against_single_letters(self):
        for book in scattered_books(40):
            live = LivePost(book)
            for _ in range(30):
                for word in "abcde":
                    live.post(word)
                live.pass_days(1)
            live.pass_days(400)
            self.assertEqual(live.under_way, [])
            expected = [(number, *end(book, "abcde"[number % 5], number // 5))
                        for number in range(150)]
            self.assertEqual(live.resting, expected)


class Giving(unittest.TestCase):

    def setUp(self):
        self.live = LivePost(TWO)

    def refused(self, order):
        before = state(self.live)
        found = raised(self, InvalidOrder, self.live.give, order)
        self.assertEqual(state(self.live), before)
        return found.index

    def test_behind_all_others(self):
        self.assertEqual(self.live.give(("c", "a", 0, 3, 1)), 2)
        self.assertEqual(self.live.give(("a", "c", 10, 30, 1)), 3)
        self.assertEqual(self.live.present_book.orders,
                         TWO.orders + (("c", "a", 0, 3, 1), ("a", "c", 10, 30, 1)))
        self.assertEqual(TWO.orders, (("a", "b", 0, 9, 1), ("b", "a", 5, 12, 2)))

    def test_wrong_orders(self):
        for value in (None, True, False, 0, "", "order", (), [], ["c", "a", 0, 3, 1], ("c", "a", 0, 3),
                      ("c", "a", 0, 3, 1, 1), ("c", "c", 0, 3, 1), ("c", "a", 4, 3, 1)):
            self.assertEqual(self.refused(value), 2)
        for word in NOT_ADDRESSES:
            self.assertEqual(self.refused((word, "a", 0, 3, 1)), 2)
            self.assertEqual(self.refused(("c", word, 0, 3, 1)), 2)
        for day in NOT_DAYS:
            self.assertEqual(self.refused(("c", "a", day, 3, 1)), 2)
            self.assertEqual(self.refused(("c", "a", 0, day, 1)), 2)
        for way in NOT_WAYS:
            self.assertEqual(self.refused(("c", "a", 0, 3, way)), 2)

    def test_a_common_day(self):
        for first, last in ((0, 0), (9, 10), (3, 4), (0, LAST_DAY)):
            self.assertEqual(self.refused(("a", "c", first, last, 1)), 2)
        self.live.give(("c", "a", 0, 9, 1))
        self.assertEqual(self.refused(("c", "b", 9, 9, 1)), 3)
        self.assertEqual(self.live.give(("c", "b", 10, 10, 1)), 3)

    def test_thirty_orders_and_one_more(self):
        for day in range(28):
            self.assertEqual(self.live.give(("c", "a", day, day, 1)), day + 2)
        self.assertEqual(self.refused(("c", "a", 28, 28, 1)), 30)
        self.assertEqual(self.refused(None), 30)
        self.assertEqual(len(self.live.present_book), 30)

    def test_an_order_counts_from_today_on(self):
        live = LivePost(Book(("a", "b", 0, 9, 3)))
        live.post("c")
        live.post("a")
        live.pass_days(2)
        live.give(("c", "d", 0, 2, 1))
        live.give(("b", "c", 3, 3, 1))
        # One letter has come to rest where the order sends on now, and one is under way.
        self.assertEqual([live(0), live(1)], [("c", 0, True), ("b", 3, False)])
        live.post("c")
        self.assertEqual([live(2), live.pass_days(1)], [("d", 3, False), [2]])
        self.assertEqual([live(0), live(1)], [("c", 0, True), ("c", 4, False)])
        self.assertEqual([live.pass_days(1), live(1)], [[1], ("c", 4, True)])

    def test_an_order_of_the_past(self):
        self.live.pass_days(5)
        self.assertEqual(self.live.give(("c", "a", 0, 4, 1)), 2)
        self.live.post("c")
        self.assertEqual(self.live(0), ("c", 5, True))


class Stopping(unittest.TestCase):

    def setUp(self):
        self.live = LivePost(TWO)

    def refused(self, index):
        before = state(self.live)
        found = raised(self, NotHolding, self.live.stop, index)
        self.assertEqual(state(self.live), before)
        return found.index

    def test_its_last_day_is_the_one_before_today(self):
        self.live.pass_days(4)
        self.assertEqual(self.live.stop(0), 9)
        self.assertEqual(self.live.present_book.orders, (("a", "b", 0, 3, 1), ("b", "a", 5, 12, 2)))
        self.live.post("a")
        self.assertEqual(self.live(0), ("a", 4, True))
        self.assertEqual(TWO[0], ("a", "b", 0, 9, 1))

    def test_an_order_that_begins_today_or_later(self):
        self.assertEqual([self.refused(0), self.refused(1)], [0, 1])
        self.live.pass_days(4)
        self.assertEqual(self.refused(1), 1)
        self.live.pass_days(1)
        self.assertEqual(self.refused(1), 1)
        self.live.pass_days(1)
        self.assertEqual([self.live.stop(1), self.live.present_book[1]], [12, ("b", "a", 5, 5, 2)])

    def test_an_order_that_has_ended(self):
        self.live.pass_days(10)
        self.assertEqual(self.refused(0), 0)
        self.live.pass_days(300)
        self.assertEqual([self.refused(0), self.refused(1)], [0, 1])

    def test_an_order_that_ends_today(self):
        self.live.pass_days(9)
        self.assertEqual([self.live.stop(0), self.live.present_book[0]], [9, ("a", "b", 0, 8, 1)])
        live = LivePost(TWO)
        live.pass_days(12)
        self.assertEqual([live.stop(1), live.present_book[1]], [12, ("b", "a", 5, 11, 2)])

    def test_an_order_that_was_stopped(self):
        self.live.pass_days(4)
        self.live.stop(0)
        self.assertEqual(self.refused(0), 0)
        self.live.pass_days(1)
        self.assertEqual(self.refused(0), 0)
        # Another order of the same source can follow it on the same day.
        self.assertEqual(self.live.give(("a", "c", 4, 9, 1)), 2)

    def test_letters_under_way_stay_so(self):
        live = LivePost(Book(("a", "b", 0, 99, 5), ("b", "c", 0, 99, 1), ("d", "e", 0, 1, 9)))
        live.post("a")
        live.pass_days(1)
        self.assertEqual([live.stop(0), live.stop(1), live.stop(2)], [99, 99, 1])
        self.assertEqual(live.under_way, [(0, "b", 5)])
        # By the book as it is then, the letter is not sent on from b.
        self.assertEqual([live.pass_days(9), live.resting], [[0], [(0, "b", 5)]])

    def test_unknown_orders(self):
        self.live.pass_days(4)
        before = state(self.live)
        for index in NOT_NUMBERS + [-1, -2, 2, 3, 30, 10 ** 30]:
            with self.subTest(index=index):
                found = raised(self, UnknownOrder, self.live.stop, index).index
                self.assertEqual((found, type(found)), (index, type(index)))
                self.assertEqual(state(self.live), before)
        self.assertEqual(raised(self, UnknownOrder, LivePost(Book()).stop, 0).index, 0)


class Undoing(unittest.TestCase):

    def setUp(self):
        self.live = LivePost(TWO)

    def run_all(self):
        """Some operations of all kinds, and the states before and behind each of them."""
        states = [state(self.live)]
        for name, argument in (("pass_days", 4), ("post", "a"), ("post", "c"), ("pass_days", 2),
                               ("give", ("a", "c", 10, 30, 1)), ("stop", 0), ("post", "a"),
                               ("pass_days", 400), ("pass_days", 0)):
            getattr(self.live, name)(argument)
            states.append(state(self.live))
        return states

    def test_all_the_way_back_and_forth(self):
        states = self.run_all()
        for before in states[-2::-1]:
            self.assertIs(self.live.undo(), True)
            self.assertEqual(state(self.live), before)
        self.assertIs(self.live.undo(), False)
        self.assertEqual(state(self.live), states[0])
        for after in states[1:]:
            self.assertIs(self.live.redo(), True)
            self.assertEqual(state(self.live), after)
        self.assertIs(self.live.redo(), False)
        self.assertEqual(state(self.live), states[-1])

    def test_history_is_what_is_in_effect(self):
        self.run_all()
        whole = [("pass_days", 4), ("post", "a"), ("post", "c"), ("pass_days", 2),
                 ("give", ("a", "c", 10, 30, 1)), ("stop", 0), ("post", "a"), ("pass_days", 400),
                 ("pass_days", 0)]
        self.assertEqual(self.live.history, whole)
        self.live.undo()
        self.live.undo()
        self.assertEqual(self.live.history, whole[:-2])
        self.live.redo()
        self.assertEqual(self.live.history, whole[:-1])
        self.live.post("q")
        self.assertEqual(self.live.history, whole[:-1] + [("post", "q")])

    def test_an_operation_takes_away_what_could_be_redone(self):
        for operation in (("post", "q"), ("pass_days", 0), ("pass_days", 1), ("stop", 0),
                          ("give", ("c", "a", 0, 1, 1))):
            live = LivePost(TWO)
            live.pass_days(1)
            live.post("a")
            live.undo()
            getattr(live, operation[0])(operation[1])
            before = state(live)
            self.assertIs(live.redo(), False)
            self.assertEqual(state(live), before)

    def test_redo_behind_an_operation_that_raised_an_error(self):
        self.live.post("a")
        self.live.post("b")
        expected = state(self.live)
        self.live.undo()
        for call in (lambda: self.live.post("A"), lambda: self.live.pass_days(401),
                     lambda: self.live.give(None), lambda: self.live.stop(0),
                     lambda: self.live.stop(9), lambda: self.live(5),
                     lambda: self.live.apply(("post",)),
                     lambda: self.live.apply(("post", "a"), ("post", "A"))):
            with self.assertRaises(MailError):
                call()
        self.assertIs(self.live.redo(), True)
        self.assertEqual(state(self.live), expected)

    def test_reading_keeps_what_can_be_redone(self):
        self.live.post("a")
        self.live.undo()
        before = state(self.live)
        self.assertEqual([len(self.live), self.live.undo()], [0, False])
        self.live.resting_after(("post", "b"))
        self.assertEqual(state(self.live), before)
        self.assertIs(self.live.redo(), True)

    def test_numbers_are_given_again(self):
        self.live.post("a")
        self.live.undo()
        self.assertEqual([self.live.post("b"), self.live(0)], [0, ("b", 0, True)])

    def test_letters_that_came_to_rest_are_under_way_again(self):
        self.live.post("a")
        self.live.post("a")
        self.live.pass_days(1)
        self.live.undo()
        self.assertEqual([self.live.under_way, self.live.resting, self.live.today],
                         [[(0, "b", 1), (1, "b", 1)], [], 0])
        self.assertEqual(self.live.pass_days(1), [0, 1])

    def test_a_stopped_order_holds_again(self):
        self.live.pass_days(4)
        self.live.stop(0)
        self.live.undo()
        self.assertEqual(self.live.present_book, TWO)
        self.live.redo()
        self.assertEqual(self.live.present_book[0], ("a", "b", 0, 3, 1))
        self.live.undo()
        self.assertEqual(self.live.stop(0), 9)


class Applying(unittest.TestCase):

    def setUp(self):
        self.live = LivePost(TWO)
        self.live.post("a")
        self.live.post("b")
        self.live.undo()

    def unchanged(self, call):
        """Run a call that raises an error, and check that everything is as before."""
        before = state(self.live), futures(self.live)
        call()
        self.assertEqual((state(self.live), futures(self.live)), before)

    def test_results_of_all_operations(self):
        found = self.live.apply(("pass_days", 1), ("post", "c"), ("stop", 0), ("pass_days", 0),
                                ("give", ("a", "c", 1, 30, 1)), ("post", "a"), ("pass_days", 1))
        self.assertEqual(found, [[0], 1, 9, [], 2, 2, [2]])
        self.assertEqual(self.live.history[1:3], [("pass_days", 1), ("post", "c")])
        self.assertEqual(len(self.live.history), 8)

    def test_as_one_by_one(self):
        other = LivePost(TWO)
        other.post("a")
        operations = [("pass_days", 4), ("post", "a"), ("stop", 0), ("pass_days", 30)]
        results = [getattr(other, name)(argument) for name, argument in operations]
        self.assertEqual(self.live.apply(*operations), results)
        self.assertEqual(state(self.live), state(other))
        self.assertIs(self.live.redo(), False)

    def test_undo_takes_back_one_operation(self):
        self.live.apply(("post", "c"), ("pass_days", 1))
        self.assertIs(self.live.undo(), True)
        self.assertEqual([self.live.today, self.live.history], [0, [("post", "a"), ("post", "c")]])
        self.assertIs(self.live.undo(), True)
        self.assertEqual(self.live.history, [("post", "a")])
        self.assertEqual([self.live.redo(), self.live.redo(), self.live.redo()], [True, True, False])
        self.assertEqual([self.live.today, len(self.live)], [1, 2])

    def test_without_operations(self):
        self.unchanged(lambda: self.assertEqual(self.live.apply(), []))
        self.assertIs(self.live.redo(), True)
        self.assertEqual(self.live.history, [("post", "a"), ("post", "b")])
        self.assertEqual(LivePost(TWO).apply(), [])

    def test_operations_take_away_what_could_be_redone(self):
        self.live.apply(("pass_days", 0))
        self.assertIs(self.live.redo(), False)

    def test_malformed_operations(self):
        good = ("post", "a")
        for value in NOT_OPERATIONS:
            with self.subTest(value=value):
                for at, operations in enumerate(((value, good), (good, value),
                                                 (good, good, value, None))):
                    self.unchanged(lambda: self.assertEqual(
                        raised(self, InvalidOperation, self.live.apply, *operations).index, at))

    def test_malformed_operations_come_before_all_errors(self):
        self.unchanged(lambda: self.assertEqual(
            raised(self, InvalidOperation, self.live.apply, ("post", "A"), ("pass_days", -1),
                   ("stop", 99), None).index, 3))

    def test_operations_that_raise_errors(self):
        good = [("post", "a"), ("pass_days", 3), ("stop", 0), ("give", ("c", "a", 0, 30, 1))]
        for operation, error, attributes in (
                (("post", "A"), InvalidAddress, {}), (("pass_days", 401), InvalidNumber, {}),
                (("give", ("a", "c", 0, 2, 1)), InvalidOrder, {"index": 3}),
                (("give", None), InvalidOrder, {"index": 3}), (("stop", 3), UnknownOrder, {"index": 3}),
                (("stop", 0), NotHolding, {"index": 0}), (("stop", 1), NotHolding, {"index": 1})):
            with self.subTest(operation=operation):
                self.unchanged(lambda: self.assertEqual(
                    vars(raised(self, error, self.live.apply, *good, operation, ("post", "c"))),
                    attributes))
        self.assertIs(self.live.redo(), True)

    def test_the_first_error_is_raised(self):
        self.unchanged(lambda: raised(self, InvalidNumber, self.live.apply, ("post", "a"),
                                      ("pass_days", None), ("post", "A")))

    def test_any_argument_may_stand_in_an_operation(self):
        for value in NOT_ADDRESSES:
            with self.subTest(value=value):
                self.unchanged(lambda: raised(self, InvalidAddress, self.live.apply, ("post", value)))
        for value in NOT_COUNTS:
            self.unchanged(lambda: raised(self, InvalidNumber, self.live.apply, ("pass_days", value)))
        for value in NOT_NUMBERS:
            found = raised(self, UnknownOrder, self.live.apply, ("stop", value))
            self.assertEqual(found.index, value)
        for value in (None, True, 0, "", "order", (), [], ["c", "a", 0, 3, 1]):
            self.assertEqual(raised(self, InvalidOrder, self.live.apply, ("give", value)).index, 2)

    def test_arguments_stay_as_they_are(self):
        operations = [("post", "a"), ("give", ("c", "a", 0, 3, 1)), ("post", ["a"])]
        kept = copy.deepcopy(operations)
        raised(self, InvalidAddress, self.live.apply, *operations)
        self.assertEqual(operations, kept)


class Replaying(unittest.TestCase):

    def test_operations_in_effect(self):
        live = LivePost(TWO)
        live.apply(("post", "a"), ("pass_days", 4), ("stop", 0), ("give", ("a", "c", 5, 9, 2)))
        live.undo()
        other = LivePost.replay(TWO, live.history)
        self.assertIsInstance(other, LivePost)
        self.assertEqual(state(other), state(live))
        self.assertIs(other.redo(), False)
        self.assertIs(other.undo(), True)
        self.assertEqual(other.present_book, TWO)

    def test_no_operations(self):
        self.assertEqual(state(LivePost.replay(TWO, [])), state(LivePost(TWO)))

    def test_the_list_is_not_kept(self):
        operations = [("post", "a"), ("pass_days", 1)]
        live = LivePost.replay(TWO, operations)
        self.assertEqual(operations, [("post", "a"), ("pass_days", 1)])
        operations.clear()
        self.assertEqual(len(live.history), 2)

    def test_errors_of_apply(self):
        good = ("post", "a")
        for value in NOT_OPERATIONS:
            with self.subTest(value=value):
                found = raised(self, InvalidOperation, LivePost.replay, TWO, [good, value, None])
                self.assertEqual(found.index, 1)
        raised(self, InvalidAddress, LivePost.replay, TWO, [good, ("post", "A")])
        raised(self, InvalidNumber, LivePost.replay, TWO, [("pass_days", -1), ("post", "A")])
        self.assertEqual(raised(self, NotHolding, LivePost.replay, TWO, [("stop", 1)]).index, 1)
        self.assertEqual(raised(self, UnknownOrder, LivePost.replay, TWO, [("stop", 2)]).index, 2)
        found = raised(self, InvalidOrder, LivePost.replay, TWO, [("give", ("a", "c", 0, 1, 1))])
        self.assertEqual(found.index, 2)
        self.assertEqual(raised(self, InvalidOperation, LivePost.replay, TWO, [None]).index, 0)

    def test_by_name(self):
        self.assertEqual(LivePost.replay(operations=[("post", "a")], book=TWO).history, [("post", "a")])


class Blocks(unittest.TestCase):

    def setUp(self):
        self.live = LivePost(TWO)
        self.live.apply(("pass_days", 4), ("post", "a"), ("post", "b"), ("pass_days", 1))
        self.live.undo()
        self.before = state(self.live), futures(self.live)

    def check(self):
        self.assertEqual((state(self.live), futures(self.live)), self.before)

    def change(self):
        """Operations of all kinds, also back over what was before."""
        self.live.apply(("pass_days", 9), ("give", ("c", "a", 0, 30, 1)), ("post", "c"), ("stop", 2))
        for _ in range(6):
            self.assertIs(self.live.undo(), True)
        self.live.post("q")

    def test_futures_of_the_beginning(self):
        undone, redone = self.before[1]
        self.assertEqual([undone, len(redone)], [3, 1])

    def test_as_it_was_at_the_beginning(self):
        with self.live:
            self.assertEqual(state(self.live), self.before[0])
            self.change()
            self.assertEqual(self.live.history, [("pass_days", 4), ("post", "q")])
        self.check()
        self.assertIs(self.live.redo(), True)
        self.assertEqual(self.live.today, 5)

    def test_redo_in_a_block(self):
        with self.live:
            self.assertEqual([self.live.redo(), self.live.redo()], [True, False])
        self.check()

    def test_an_empty_block(self):
        with self.live:
            pass
        self.check()

    def test_the_name_of_a_block(self):
        with self.live as found:
            self.assertIs(found, self.live)
            found.post("q")
        self.check()

    def test_blocks_that_end_with_an_error(self):
        with self.assertRaises(KeyError):
            with self.live:
                self.change()
                raise KeyError("q")
        self.check()
        with self.assertRaises(InvalidAddress):
            with self.live:
                self.live.post("q")
                self.live.post("Q")
        self.check()

    def test_blocks_that_are_left(self):
        for _ in range(3):
            with self.live:
                self.change()
                continue
        self.check()

    def test_one_block_after_another(self):
        for _ in range(3):
            with self.live:
                self.change()
            self.check()

    def test_a_block_within_a_block(self):
        with self.live:
            self.live.post("q")
            inside = state(self.live)
            for _ in range(2):
                with self.assertRaises(AlreadyOpen):
                    with self.live:
                        self.fail("a block within a block")
                self.assertEqual(state(self.live), inside)
            self.live.post("q")
            self.assertEqual(len(self.live), 4)
        self.check()
        with self.live:
            self.live.post("q")
        self.check()

    def test_an_error_of_a_block_within_a_block_ends_both(self):
        with self.assertRaises(AlreadyOpen) as caught:
            with self.live:
                self.change()
                with self.live:
                    self.fail("a block within a block")
        self.assertEqual(vars(caught.exception), {})
        self.check()

    def test_blocks_of_other_post_offices(self):
        other = LivePost.replay(TWO, self.live.history)
        with self.live:
            with other:
                self.live.post("q")
                other.post("r")
                other.post("r")
                self.assertEqual([len(self.live), len(other)], [3, 4])
            self.assertEqual([len(self.live), len(other)], [3, 2])
        self.check()

    def test_resting_after_operations(self):
        found = self.live.resting_after(("pass_days", 400), ("post", "q"))
        self.assertEqual(found, [(0, "a", 10), (1, "b", 4), (2, "q", 404)])
        self.check()
        self.assertEqual(self.live.resting_after(), self.live.resting)
        self.check()

    def test_resting_after_operations_with_errors(self):
        good = ("post", "a")
        for value in NOT_OPERATIONS:
            found = raised(self, InvalidOperation, self.live.resting_after, good, value)
            self.assertEqual(found.index, 1)
        self.check()
        raised(self, InvalidAddress, self.live.resting_after, good, ("post", "A"))
        self.assertEqual(raised(self, NotHolding, self.live.resting_after, good, ("stop", 1)).index, 1)
        self.assertEqual(raised(self, UnknownOrder, self.live.resting_after, ("stop", 2)).index, 2)
        self.assertEqual(raised(self, InvalidOrder, self.live.resting_after, ("give", 2)).index, 2)
        raised(self, InvalidNumber, self.live.resting_after, ("pass_days", 401))
        self.check()

    def test_resting_after_operations_within_a_block(self):
        with self.live:
            self.live.post("q")
            inside = state(self.live)
            for operations in ((), (("post", "q"),), (None,), (("post", "Q"),)):
                raised(self, AlreadyOpen, self.live.resting_after, *operations)
            self.assertEqual(state(self.live), inside)
        self.check()


class Returned(unittest.TestCase):

    def test_lists_can_be_changed(self):
        live = LivePost(TWO)
        results = live.apply(("post", "a"), ("post", "b"), ("pass_days", 1), ("post", "b"))
        live.post("a")
        before = state(live), futures(live)
        lists = [results, results[2], live.resting, live.under_way, live.history,
                 live.resting_after(("post", "c")), live.pass_days(0)]
        live.undo()
        for found in lists:
            found.reverse()
            found += [1, 2, 3]
            del found[0]
        self.assertEqual((state(live), futures(live)[0]), (before[0], before[1][0]))
        rested = live.pass_days(30)
        rested.clear()
        live.undo()
        self.assertEqual(live.pass_days(30), [3])

    def test_equal_calls_give_equal_values(self):
        live = LivePost(TWO)
        live.apply(("post", "a"), ("post", "b"), ("pass_days", 0))
        for _ in range(3):
            self.assertEqual(live.resting, [(1, "b", 0)])
            self.assertEqual(live.under_way, [(0, "b", 1)])
            self.assertEqual(live.resting_after(("pass_days", 9)), [(0, "b", 1), (1, "b", 0)])
            self.assertEqual([live(0), live(1), len(live)], [("b", 1, False), ("b", 0, True), 2])

    def test_the_book_stays_as_it_is(self):
        book = Book(*TWO.orders)
        live = LivePost(book)
        live.apply(("pass_days", 2), ("stop", 0), ("give", ("c", "a", 0, 9, 1)))
        self.assertEqual(book, TWO)
        self.assertNotEqual(live.present_book, book)


class AgainstSingleDays(unittest.TestCase):

    def operation(self, chance, live):
        name = chance.choice(("post", "post", "post", "pass_days", "pass_days", "give", "stop"))
        if name == "post":
            return name, chance.choice("abcde")
        if name == "pass_days":
            return name, chance.choice((0, 1, 1, 2, 5, 12))
        if name == "stop":
            return name, chance.randrange(len(live.present_book) + 1)
        source, target = chance.sample("abcde", 2)
        first = live.today + chance.randrange(-2, 6)
        return name, (source, target, first, first + chance.randrange(9), chance.randint(1, 5))

    def check(self, live, post):
        letters = post.letters
        self.assertEqual(live.today, post.today)
        self.assertEqual(live.present_book.orders, tuple(post.orders))
        self.assertEqual([live(letter) for letter in range(len(live))], letters)
        self.assertEqual(live.resting, [(number, letter[0], letter[1])
                                        for number, letter in enumerate(letters) if letter[2]])
        self.assertEqual(live.under_way, [(number, letter[0], letter[1])
                                          for number, letter in enumerate(letters) if not letter[2]])

    def after(self, book, operations):
        post = slow.Post(book.orders)
        for name, argument in operations:
            getattr(post, name)(argument)
        return post

    def test_random_operations(self):
        chance = random.Random(10)
        refused = undone = 0
        for book in scattered_books(40):
            live, post = LivePost(book), slow.Post(book.orders)
            done, later = [], []
            for _ in range(60):
                if chance.random() < 0.2:
                    self.assertIs(live.undo(), bool(done))
                    later += [done.pop()] if done else []
                    undone += 1
                    post = self.after(book, done)
                elif chance.random() < 0.1:
                    self.assertIs(live.redo(), bool(later))
                    done += [later.pop()] if later else []
                    post = self.after(book, done)
                else:
                    name, argument = self.operation(chance, live)
                    try:
                        found = getattr(live, name)(argument)
                    except MailError:
                        self.assertFalse(post.allows(name, argument))
                        refused += 1
                        continue
                    self.assertTrue(post.allows(name, argument))
                    self.assertEqual(found, getattr(post, name)(argument))
                    done.append((name, argument))
                    later = []
                self.assertEqual(live.history, done)
                self.check(live, post)
            self.check(LivePost.replay(book, live.history), post)
        self.assertGreater(refused, 100)
        self.assertGreater(undone, 100)


if __name__ == "__main__":
    unittest.main()
