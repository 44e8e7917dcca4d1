"""Letters: points 1, 4 and 5."""

import inspect
import random
import types
import unittest

import slow
from mailforwards import letters
from mailforwards.books import Book
from mailforwards.errors import InvalidAddress, InvalidDay, InvalidNumber
from mailforwards.letters import end, meeting, route, times_sent
from samples import SETTLED, scattered_books, shifted, small_and_great_books
from wrong import LAST_DAY, NOT_ADDRESSES, NOT_DAYS, NOT_NUMBERS, raised

TWO = Book(("a", "b", 0, 9, 1), ("b", "a", 5, 12, 2))
FOREVER = Book.chain(0, LAST_DAY, 1, "a", "b", "a")


class Names(unittest.TestCase):

    def test_functions_are_defined_in_their_file(self):
        names = {"end": ["book", "address", "day"], "times_sent": ["book", "address", "day"],
                 "route": ["book", "address", "day", "count"], "meeting": ["book", "one", "other"]}
        for name, parameters in names.items():
            found = vars(letters)[name]
            self.assertIsInstance(found, types.FunctionType)
            self.assertEqual(found.__module__, "mailforwards.letters")
            self.assertEqual(list(inspect.signature(found).parameters), parameters)

    def test_kinds(self):
        self.assertIsInstance(end(TWO, "a", 3), tuple)
        self.assertIs(type(times_sent(TWO, "a", 3)), int)
        self.assertTrue(inspect.isgenerator(route(TWO, "a", 3, 3)))
        self.assertIsInstance(next(route(TWO, "a", 3, 3)), tuple)
        self.assertIsInstance(meeting(TWO, ("a", 4), ("a", 7)), tuple)


class End(unittest.TestCase):

    def test_ordinary_letters(self):
        self.assertEqual([end(TWO, "a", day) for day in (0, 3, 4, 9, 10)],
                         [("b", 1), ("b", 4), ("a", 10), ("a", 12), ("a", 10)])
        self.assertEqual([times_sent(TWO, "a", day) for day in (0, 3, 4, 9, 10)], [1, 1, 4, 2, 0])

    def test_first_and_last_days_are_included(self):
        book = Book(("a", "b", 3, 5, 30))
        self.assertEqual([end(book, "a", day) for day in (2, 3, 4, 5, 6)],
                         [("a", 2), ("b", 33), ("b", 34), ("b", 35), ("a", 6)])
        self.assertEqual([times_sent(book, "a", day) for day in (2, 3, 4, 5, 6)], [0, 1, 1, 1, 0])

    def test_the_day_of_each_arrival_counts(self):
        book = Book(("a", "b", 0, 0, 2), ("b", "c", 0, 1, 1), ("b", "d", 2, 2, 3),
                    ("d", "e", 5, 5, 1), ("e", "a", 7, 9, 1))
        self.assertEqual([end(book, "a", 0), times_sent(book, "a", 0)], [("e", 6), 3])

    def test_addresses_beside_the_book(self):
        for book in (TWO, Book()):
            self.assertEqual([end(book, "abcdefgh", 4), times_sent(book, "abcdefgh", 4)],
                             [("abcdefgh", 4), 0])
        self.assertEqual(end(Book(), "a", LAST_DAY), ("a", LAST_DAY))

    def test_arrivals_behind_the_last_day(self):
        book = Book(("a", "b", LAST_DAY, LAST_DAY, 30), ("b", "c", 0, LAST_DAY, 1))
        self.assertEqual([end(book, "a", LAST_DAY), times_sent(book, "a", LAST_DAY)],
                         [("b", LAST_DAY + 30), 1])
        self.assertEqual(end(book, "a", LAST_DAY - 1), ("a", LAST_DAY - 1))
        self.assertEqual([end(book, "b", LAST_DAY - 1), end(book, "b", LAST_DAY)],
                         [("c", LAST_DAY), ("c", LAST_DAY + 1)])

    def test_loops_that_hold_for_ever(self):
        self.assertEqual(end(FOREVER, "a", 0), ("b", LAST_DAY + 1))
        self.assertEqual(end(FOREVER, "b", 0), ("a", LAST_DAY + 1))
        self.assertEqual(end(FOREVER, "a", 1), ("a", LAST_DAY + 1))
        self.assertEqual(end(FOREVER, "a", LAST_DAY), ("b", LAST_DAY + 1))
        self.assertEqual([times_sent(FOREVER, "a", day) for day in (0, 1, LAST_DAY)],
                         [LAST_DAY + 1, LAST_DAY, 1])

    def test_loops_of_several_ways(self):
        book = Book(("a", "b", 0, LAST_DAY, 30), ("b", "c", 0, LAST_DAY, 7),
                    ("c", "a", 0, LAST_DAY, 3), ("x", "a", 0, LAST_DAY, 5))
        rounds = (LAST_DAY - 5) // 40
        rest = (LAST_DAY - 5) % 40
        self.assertLess(rest, 37)
        self.assertGreaterEqual(rest, 30)
        self.assertEqual(end(book, "x", 0), ("c", 5 + 40 * rounds + 37))
        self.assertEqual(times_sent(book, "x", 0), 1 + 3 * rounds + 2)

    def test_a_loop_of_thirty_orders(self):
        words = [first + second for first in "abcde" for second in "uvwxyz"]
        book = Book.chain(0, LAST_DAY, 30, *words, "au")
        self.assertEqual(len(book), 30)
        orders = -(-(LAST_DAY + 1) // 30)
        self.assertEqual(end(book, "au", 0), (words[orders % 30], 30 * orders))
        self.assertEqual(times_sent(book, "au", 0), orders)

    def test_loops_that_change_after_many_days(self):
        half = LAST_DAY // 2
        for more in range(4):
            book = Book(("a", "b", 0, half + more, 2), ("b", "a", 0, half + more, 3),
                        ("a", "c", half + more + 1, LAST_DAY, 1),
                        ("c", "a", half, LAST_DAY, 1), ("b", "a", half + more + 1, LAST_DAY, 1))
            # The letter is at a on each day that five divides, and at b two days later.
            self.assertEqual(half % 5, 0)
            address, day = ("a", half + 5) if more >= 2 else ("b", half + 2)
            orders = half // 5 * 2 + (2 if more >= 2 else 1)
            if address == "b":
                address, day, orders = "a", day + 1, orders + 1
            left = LAST_DAY + 1 - day
            with self.subTest(more=more):
                self.assertEqual(end(book, "a", 0), ("ac"[left % 2], LAST_DAY + 1))
                self.assertEqual(times_sent(book, "a", 0), orders + left)

    def test_a_loop_that_is_left_on_one_day(self):
        middle = 10 ** 17
        book = Book(("a", "b", 0, LAST_DAY, 1), ("b", "a", 0, middle, 1),
                    ("b", "c", middle + 1, middle + 1, 4), ("b", "a", middle + 2, LAST_DAY, 1))
        self.assertEqual(end(book, "a", 0), ("c", middle + 5))
        self.assertEqual(times_sent(book, "a", 0), middle + 2)
        self.assertEqual(end(book, "b", 0), ("a", LAST_DAY + 1))
        self.assertEqual(times_sent(book, "b", 0), LAST_DAY + 1)

    def test_against_single_arrivals(self):
        for book in scattered_books(150):
            for address in "abcde":
                for day in range(0, 90, 4):
                    found = slow.arrivals(book.orders, address, day)
                    self.assertEqual(end(book, address, day), found[-1])
                    self.assertEqual(times_sent(book, address, day), len(found) - 1)

    def test_great_days_against_small_ones(self):
        late = 0
        for small, great, shift in small_and_great_books(300):
            for address in "abcd":
                for day in range(0, 30, 3):
                    found = slow.arrivals(small.orders, address, day)
                    self.assertEqual(end(great, address, day), shifted(found[-1], shift))
                    late += found[-1][1] > SETTLED
                    if found[-1][1] <= SETTLED:
                        self.assertEqual(times_sent(great, address, day), len(found) - 1)
        self.assertGreater(late, 1000)


class Route(unittest.TestCase):

    def test_first_arrivals(self):
        self.assertEqual(list(route(TWO, "a", 4, 3)), [("a", 4), ("b", 5), ("a", 7)])
        self.assertEqual(list(route(TWO, "a", 4, 1)), [("a", 4)])
        self.assertEqual(list(route(TWO, "a", 4, 0)), [])

    def test_no_more_arrivals_than_there_are(self):
        whole = [("a", 4), ("b", 5), ("a", 7), ("b", 8), ("a", 10)]
        for count in (5, 6, 1000):
            self.assertEqual(list(route(TWO, "a", 4, count)), whole)
        self.assertEqual(list(route(TWO, "c", 4, 5)), [("c", 4)])
        self.assertEqual(list(route(Book(), "c", LAST_DAY, 1000)), [("c", LAST_DAY)])

    def test_thousand_arrivals_of_a_loop(self):
        found = list(route(FOREVER, "b", 7, 1000))
        self.assertEqual(found, [("ba"[at % 2], 7 + at) for at in range(1000)])

    def test_arrivals_behind_the_last_day(self):
        self.assertEqual(list(route(FOREVER, "a", LAST_DAY - 1, 9)),
                         [("a", LAST_DAY - 1), ("b", LAST_DAY), ("a", LAST_DAY + 1)])
        book = Book(("a", "b", 0, LAST_DAY, 30), ("b", "a", 0, LAST_DAY, 1))
        self.assertEqual(list(route(book, "a", LAST_DAY, 9)),
                         [("a", LAST_DAY), ("b", LAST_DAY + 30)])

    def test_against_single_arrivals(self):
        for book in scattered_books(40):
            for address in "abcde":
                for day in range(0, 70, 7):
                    whole = slow.arrivals(book.orders, address, day)
                    for count in (0, 1, 4, 1000):
                        self.assertEqual(list(route(book, address, day, count)), whole[:count])

    def test_wrong_numbers(self):
        for count in NOT_NUMBERS + [-1, -1000, 1001, 1002, 10 ** 18]:
            with self.subTest(count=count):
                raised(self, InvalidNumber, lambda: list(route(TWO, "a", 4, count)))

    def test_arguments_are_checked_when_the_first_value_is_requested(self):
        for arguments, error in ((("A", 4, 3), InvalidAddress), (("a", -1, 3), InvalidDay),
                                 (("a", 4, 1001), InvalidNumber), (("A", 4, 0), InvalidAddress),
                                 (("a", -1, 0), InvalidDay)):
            it = route(TWO, *arguments)
            raised(self, error, next, it)

    def test_generators_yield_equal_values(self):
        self.assertEqual(list(route(TWO, "a", 4, 9)), list(route(TWO, "a", 4, 9)))
        one, other = route(TWO, "a", 4, 9), route(TWO, "b", 6, 9)
        self.assertEqual([next(one), next(other), next(one), next(other)],
                         [("a", 4), ("b", 6), ("b", 5), ("a", 8)])


class Checks(unittest.TestCase):

    def calls(self, address, day):
        return [lambda: end(TWO, address, day), lambda: times_sent(TWO, address, day),
                lambda: list(route(TWO, address, day, 3)),
                lambda: list(route(TWO, address, day, -1)),
                lambda: meeting(TWO, (address, day), ("a", 4)),
                lambda: meeting(TWO, (address, day), (None, None)),
                lambda: meeting(TWO, ("a", 4), (address, day))]

    def test_wrong_addresses(self):
        for address in NOT_ADDRESSES:
            for day in (4, -1, None):
                for at, call in enumerate(self.calls(address, day)):
                    with self.subTest(address=address, day=day, at=at):
                        raised(self, InvalidAddress, call)

    def test_wrong_days(self):
        for day in NOT_DAYS:
            for address in ("a", "zzzzzzzz"):
                for at, call in enumerate(self.calls(address, day)):
                    with self.subTest(address=address, day=day, at=at):
                        raised(self, InvalidDay, call)

    def test_the_first_letter_is_checked_before_the_other_one(self):
        raised(self, InvalidDay, meeting, TWO, ("a", -1), ("A", 4))
        raised(self, InvalidAddress, meeting, TWO, ("A", 4), ("a", -1))
        raised(self, InvalidAddress, meeting, TWO, ("a", 4), ("A", -1))

    def test_what_is_no_letter(self):
        for letter in (None, True, 4, "", "ab", (), []):
            with self.subTest(letter=letter):
                raised(self, InvalidAddress, meeting, TWO, letter, ("a", 4))
                raised(self, InvalidAddress, meeting, TWO, ("a", 4), letter)

    def test_first_and_last_days_are_allowed(self):
        for day in (0, LAST_DAY):
            self.assertEqual(end(TWO, "c", day), ("c", day))
            self.assertEqual(meeting(TWO, ("c", day), ("c", day)), ("c", day))

    def test_nothing_changes(self):
        book = Book(*TWO.orders)
        for call in self.calls("a", 4) + self.calls("A", 4) + self.calls("a", -1):
            try:
                call()
            except ValueError:
                pass
            self.assertEqual(book, TWO)
        self.assertEqual(TWO.orders, (("a", "b", 0, 9, 1), ("b", "a", 5, 12, 2)))

    def test_equal_calls_give_equal_values(self):
        for _ in range(3):
            self.assertEqual(end(TWO, "a", 4), ("a", 10))
            self.assertEqual(times_sent(TWO, "a", 4), 4)
            self.assertEqual(meeting(TWO, ("a", 4), ("a", 7)), ("a", 7))


class Meeting(unittest.TestCase):

    def both_ways(self, book, one, other):
        found = meeting(book, one, other)
        self.assertEqual(meeting(book, other, one), found)
        return found

    def test_at_once(self):
        self.assertEqual(meeting(TWO, ("a", 4), ("a", 4)), ("a", 4))
        self.assertEqual(meeting(TWO, ("c", 4), ("c", 4)), ("c", 4))
        self.assertEqual(meeting(FOREVER, ("a", 4), ("a", 4)), ("a", 4))

    def test_at_the_place_of_one_letter(self):
        self.assertEqual(self.both_ways(TWO, ("a", 4), ("b", 5)), ("b", 5))
        self.assertEqual(self.both_ways(TWO, ("a", 4), ("a", 10)), ("a", 10))

    def test_on_the_way(self):
        book = Book(("a", "c", 0, 9, 3), ("b", "c", 0, 9, 2), ("c", "d", 0, 9, 1))
        self.assertEqual(self.both_ways(book, ("a", 0), ("b", 1)), ("c", 3))
        self.assertIsNone(self.both_ways(book, ("a", 0), ("b", 2)))

    def test_at_the_end(self):
        book = Book(("a", "c", 0, 9, 30), ("b", "c", 0, 9, 29))
        self.assertEqual(self.both_ways(book, ("a", 0), ("b", 1)), ("c", 30))
        self.assertIsNone(self.both_ways(book, ("a", 0), ("b", 0)))

    def test_same_address_on_other_days(self):
        self.assertIsNone(self.both_ways(TWO, ("c", 4), ("c", 5)))
        self.assertIsNone(self.both_ways(TWO, ("a", 10), ("a", 12)))
        # One letter rests at b when the other one arrives there.
        self.assertIsNone(self.both_ways(TWO, ("a", 2), ("b", 4)))

    def test_same_day_at_other_addresses(self):
        self.assertIsNone(self.both_ways(TWO, ("a", 4), ("b", 4)))
        self.assertIsNone(self.both_ways(TWO, ("c", 4), ("d", 4)))

    def test_behind_each_other_in_a_loop(self):
        self.assertIsNone(self.both_ways(FOREVER, ("a", 0), ("b", 0)))
        self.assertIsNone(self.both_ways(FOREVER, ("a", 0), ("a", LAST_DAY - 1)))
        self.assertEqual(self.both_ways(FOREVER, ("a", 0), ("b", 1)), ("b", 1))
        self.assertEqual(self.both_ways(FOREVER, ("a", 0), ("a", LAST_DAY)), ("a", LAST_DAY))
        self.assertEqual(self.both_ways(FOREVER, ("b", 1), ("a", LAST_DAY)), ("a", LAST_DAY))

    def test_behind_a_loop_of_great_days(self):
        book = Book(("a", "b", 0, LAST_DAY - 2, 1), ("b", "a", 0, LAST_DAY - 2, 1),
                    ("b", "a", LAST_DAY - 1, LAST_DAY - 1, 2))
        found = self.both_ways(book, ("a", 0), ("b", 0))
        self.assertIsNone(found)
        book = book + Book(("a", "b", LAST_DAY - 1, LAST_DAY - 1, 1),
                           ("b", "a", LAST_DAY, LAST_DAY, 1))
        self.assertEqual(self.both_ways(book, ("a", 0), ("b", 0)), ("a", LAST_DAY + 1))

    def test_a_meeting_between_two_long_loops(self):
        middle = 3 * 10 ** 17
        book = Book(("a", "b", 0, LAST_DAY, 1), ("b", "a", 0, LAST_DAY, 1),
                    ("c", "d", 0, middle - 1, 1), ("d", "c", 0, LAST_DAY, 1),
                    ("c", "a", middle, LAST_DAY, 2))
        self.assertEqual(self.both_ways(book, ("a", 0), ("c", 0)), ("a", middle + 2))
        self.assertIsNone(self.both_ways(book, ("a", 1), ("c", 0)))
        self.assertEqual(self.both_ways(book, ("a", 1), ("d", 0)), ("a", middle + 3))
        self.assertEqual(self.both_ways(book, ("a", middle + 8), ("c", 0)), ("a", middle + 8))

    def test_loops_of_other_lengths_never_meet(self):
        book = Book.chain(0, LAST_DAY, 7, "a", "b", "c", "a")
        book = book + Book.chain(0, LAST_DAY, 5, "d", "e", "d")
        self.assertIsNone(self.both_ways(book, ("a", 0), ("d", 0)))
        self.assertEqual(self.both_ways(book, ("a", 0), ("c", 14 + 21 * 10 ** 16)),
                         ("c", 14 + 21 * 10 ** 16))

    def test_letters_that_come_into_one_loop(self):
        book = Book.chain(0, LAST_DAY, 5, "a", "b", "c", "a")
        book = book + Book(("x", "a", 0, LAST_DAY, 1), ("y", "b", 0, LAST_DAY, 2))
        self.assertEqual(self.both_ways(book, ("x", 0), ("y", 4)), ("b", 6))
        self.assertEqual(self.both_ways(book, ("x", 0), ("y", 4 + 15 * 10 ** 16)),
                         ("b", 6 + 15 * 10 ** 16))
        self.assertIsNone(self.both_ways(book, ("x", 0), ("y", 5 + 15 * 10 ** 16)))

    def test_against_single_arrivals(self):
        chance = random.Random(5)
        met = 0
        for book in scattered_books(200):
            for _ in range(30):
                one = (chance.choice("abcd"), chance.randrange(40))
                other = (chance.choice("abcd"), one[1] + chance.randrange(4))
                found = slow.first_common(book.orders, one, other)
                self.assertEqual(meeting(book, one, other), found)
                met += found is not None and one != other and found not in (one, other)
        self.assertGreater(met, 300)

    def test_great_days_against_small_ones(self):
        chance = random.Random(55)
        late = 0
        for small, great, shift in small_and_great_books(300):
            for _ in range(20):
                one = (chance.choice("abcd"), chance.randrange(28))
                other = (chance.choice("abcd"), one[1] + chance.randrange(3))
                found = slow.first_common(small.orders, one, other)
                late += found is not None and found[1] > SETTLED
                self.assertEqual(meeting(great, one, other), found and shifted(found, shift))
        self.assertGreater(late, 20)


if __name__ == "__main__":
    unittest.main()
