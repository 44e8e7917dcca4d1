"""Letters of many days: points 1, 6, 7 and 8."""

import inspect
import random
import types
import unittest
from collections import Counter

import slow
from mailforwards import counting
from mailforwards.books import Book
from mailforwards.counting import (end_counts, first_day_for, first_unlike_day, is_needless,
                                   last_day_for, needless_orders, sent_by)
from mailforwards.errors import InvalidAddress, InvalidDay, UnknownOrder
from mailforwards.letters import end
from samples import PERIOD, SETTLED, SHIFT, scattered_books, small_and_great_books, stretched_books
from wrong import ADDRESSES, LAST_DAY, NOT_ADDRESSES, NOT_DAYS, NOT_NUMBERS, outcome, raised

TWO = Book(("a", "b", 0, 9, 1), ("b", "a", 5, 12, 2))
FOREVER = Book.chain(0, LAST_DAY, 1, "a", "b", "a")
THIRTY = [first + second for first in "abcde" for second in "uvwxyz"]
# A loop that changes in the middle of all days, a way into it, and a way out on a single day.
MIDDLE = 5 * 10 ** 17
CHANGED = Book(("a", "b", 0, LAST_DAY, 2), ("b", "a", 0, MIDDLE, 1),
               ("b", "c", MIDDLE + 1, MIDDLE + 1, 4), ("b", "a", MIDDLE + 2, LAST_DAY, 3),
               ("x", "a", 7, LAST_DAY - 7, 30))


class Names(unittest.TestCase):

    def test_functions_are_defined_in_their_file(self):
        names = {"end_counts": ["book", "address", "first", "last"],
                 "sent_by": ["book", "address", "first", "last"],
                 "first_day_for": ["book", "address", "goal"],
                 "last_day_for": ["book", "address", "goal"],
                 "first_unlike_day": ["book", "other", "address", "first"],
                 "is_needless": ["book", "index"], "needless_orders": ["book"]}
        for name, parameters in names.items():
            found = vars(counting)[name]
            self.assertIsInstance(found, types.FunctionType)
            self.assertEqual(found.__module__, "mailforwards.counting")
            self.assertEqual(list(inspect.signature(found).parameters), parameters)

    def test_kinds(self):
        self.assertIs(type(end_counts(TWO, "a", 0, 9)), dict)
        self.assertEqual({type(many) for many in end_counts(TWO, "a", 0, 9).values()}, {int})
        self.assertIs(type(sent_by(TWO, "a", 0, 9)), list)
        self.assertIs(type(first_day_for(TWO, "a", "a")), int)
        self.assertIs(type(last_day_for(TWO, "a", "a")), int)
        self.assertIs(type(first_unlike_day(TWO, Book(), "a", 0)), int)
        self.assertIs(is_needless(TWO, 0), False)
        self.assertIs(type(needless_orders(TWO)), list)


class EndCounts(unittest.TestCase):

    def test_ordinary_spans(self):
        self.assertEqual(end_counts(TWO, "a", 0, 9), {"a": 6, "b": 4})
        self.assertEqual(end_counts(TWO, "a", 0, 3), {"b": 4})
        self.assertEqual(end_counts(TWO, "a", 3, 12), {"a": 9, "b": 1})
        self.assertEqual(end_counts(TWO, "b", 0, 20), {"a": 8, "b": 13})

    def test_spans_of_one_day(self):
        for address in "abc":
            for day in range(15):
                self.assertEqual(end_counts(TWO, address, day, day), {end(TWO, address, day)[0]: 1})
        for day in (0, LAST_DAY - 1, LAST_DAY):
            self.assertEqual(end_counts(Book(), "a", day, day), {"a": 1})
            self.assertEqual(end_counts(FOREVER, "a", day, day), {end(FOREVER, "a", day)[0]: 1})

    def test_first_and_last_days_of_an_order(self):
        book = Book(("a", "b", 3, 5, 30))
        self.assertEqual(end_counts(book, "a", 2, 6), {"a": 2, "b": 3})
        self.assertEqual(end_counts(book, "a", 0, 2), {"a": 3})
        self.assertEqual(end_counts(book, "a", 2, 3), {"a": 1, "b": 1})
        self.assertEqual(end_counts(book, "a", 5, 6), {"a": 1, "b": 1})
        self.assertEqual(end_counts(book, "a", 6, LAST_DAY), {"a": LAST_DAY - 5})
        self.assertEqual(end_counts(book, "a", 0, LAST_DAY), {"a": LAST_DAY - 2, "b": 3})

    def test_the_first_and_the_last_day_of_all(self):
        book = Book(("a", "b", 0, 0, 1), ("a", "c", LAST_DAY, LAST_DAY, 1))
        self.assertEqual(end_counts(book, "a", 0, LAST_DAY), {"a": LAST_DAY - 1, "b": 1, "c": 1})

    def test_all_days_of_a_loop(self):
        self.assertEqual(end_counts(FOREVER, "a", 0, LAST_DAY),
                         {"a": LAST_DAY // 2, "b": LAST_DAY // 2 + 1})
        self.assertEqual(end_counts(FOREVER, "b", 0, LAST_DAY),
                         {"a": LAST_DAY // 2 + 1, "b": LAST_DAY // 2})
        self.assertEqual(end_counts(FOREVER, "c", 0, LAST_DAY), {"c": LAST_DAY + 1})

    def test_all_days_without_orders(self):
        self.assertEqual(end_counts(Book(), "abcdefgh", 0, LAST_DAY), {"abcdefgh": LAST_DAY + 1})

    def test_the_longest_loop_of_all(self):
        book = Book.chain(0, LAST_DAY, 30, *THIRTY, THIRTY[0])
        found = end_counts(book, THIRTY[0], 0, LAST_DAY)
        # The letter of the last day is sent on once, and each order takes thirty days.
        expected = Counter()
        for at in range(30):
            orders = range(at + 1, (LAST_DAY + 30) // 30 + 1, 30)
            expected[THIRTY[(at + 1) % 30]] += 30 * len(orders)
        expected[THIRTY[(LAST_DAY // 30 + 1) % 30]] -= 30 - (LAST_DAY % 30 + 1)
        self.assertEqual(found, expected)
        self.assertEqual(sum(found.values()), LAST_DAY + 1)

    def test_a_long_chain(self):
        book = Book.chain(5, LAST_DAY, 30, *THIRTY, "end")
        found = end_counts(book, THIRTY[0], 0, LAST_DAY)
        expected = {THIRTY[0]: 5, "end": LAST_DAY - 5 - 29 * 30 + 1}
        expected.update({word: 30 for word in THIRTY[1:]})
        self.assertEqual(found, expected)

    def test_a_loop_that_changes_in_the_middle(self):
        found = end_counts(CHANGED, "x", 0, LAST_DAY)
        self.assertEqual(sum(found.values()), LAST_DAY + 1)
        self.assertEqual(found["x"], 14)
        # A round takes three days; a letter is at b on the day of the way out if it fits.
        fits = [day for day in range(0, 3) if (MIDDLE + 1 - 2 - day) % 3 == 0]
        self.assertEqual(len(fits), 1)
        on_days = range(fits[0], MIDDLE, 3)
        self.assertEqual(end_counts(CHANGED, "a", 0, LAST_DAY)["c"], len(on_days))

    def test_parts_make_the_whole(self):
        chance = random.Random(6)
        for address in "abcx":
            whole = Counter(end_counts(CHANGED, address, 0, LAST_DAY))
            for _ in range(20):
                cuts = sorted({0, LAST_DAY + 1, MIDDLE - chance.randrange(40),
                               MIDDLE + chance.randrange(40), chance.randrange(1, LAST_DAY),
                               chance.randrange(1, 40), LAST_DAY - chance.randrange(40)})
                parts = Counter()
                for first, after in zip(cuts, cuts[1:]):
                    parts.update(end_counts(CHANGED, address, first, after - 1))
                self.assertEqual(parts, whole)

    def test_the_dict_ascends(self):
        book = Book(("m", "z", 0, 0, 1), ("m", "ab", 1, 1, 1), ("m", "b", 2, 2, 1),
                    ("m", "a", 3, 3, 1), ("m", "abc", 4, 4, 1))
        found = end_counts(book, "m", 0, 9)
        self.assertEqual(list(found), ["a", "ab", "abc", "b", "m", "z"])
        self.assertEqual(list(found.values()), [1, 1, 1, 1, 5, 1])
        for book in scattered_books(30):
            found = list(end_counts(book, "a", 0, 80))
            self.assertEqual(found, sorted(found))

    def test_against_single_letters(self):
        for book in scattered_books(40):
            for address in "abcde":
                found = slow.daily_ends(book.orders, address, 0, 70)
                for first, last in ((0, 70), (0, 0), (3, 29), (17, 55), (30, 31), (60, 70)):
                    self.assertEqual(end_counts(book, address, first, last),
                                     Counter(found[first:last + 1]))

    def test_against_single_letters_with_long_ways(self):
        for book in scattered_books(30, 30):
            for address in "abcd":
                self.assertEqual(end_counts(book, address, 0, 70),
                                 Counter(slow.daily_ends(book.orders, address, 0, 70)))

    def test_great_days_against_single_letters(self):
        chance = random.Random(66)
        for _, great, shift in small_and_great_books(40):
            for address in "abcd":
                near = chance.choice((0, 20, 31, chance.randrange(shift), shift + PERIOD, shift + 860))
                first = near + chance.randrange(20)
                last = first + chance.randrange(60)
                ends = [end(great, address, day)[0] for day in range(first, last + 1)]
                self.assertEqual(end_counts(great, address, first, last), Counter(ends))

    def test_all_days_against_single_letters(self):
        # Each period of days in a long loop has the same ends.
        lengths = (PERIOD, 2 * PERIOD, PERIOD + SHIFT)
        for at, (small, middle, great) in enumerate(stretched_books(24, *lengths)):
            address = "abcd"[at % 4]
            counts = [Counter(end(book, address, day)[0] for day in range(100 + days))
                      for book, days in ((small, PERIOD), (middle, 2 * PERIOD))]
            expected = Counter()
            for word in "abcd":
                more = counts[1][word] - counts[0][word]
                expected[word] = counts[0][word] + SHIFT // PERIOD * more
            expected[address] += LAST_DAY + 1 - (100 + PERIOD + SHIFT)
            self.assertEqual(end_counts(great, address, 0, LAST_DAY), +expected)


class SentBy(unittest.TestCase):

    def test_ordinary_spans(self):
        self.assertEqual([sent_by(TWO, "a", 0, 3), sent_by(TWO, "a", 9, 20)], [[0], [0, 1]])
        self.assertEqual([sent_by(TWO, "b", 0, 4), sent_by(TWO, "b", 8, 12)], [[], [1]])

    def test_spans_of_one_day(self):
        for address in "abc":
            for day in range(15):
                self.assertEqual(sent_by(TWO, address, day, day),
                                 slow.senders(TWO.orders, address, day, day))
        self.assertEqual(sent_by(TWO, "c", 0, LAST_DAY), [])
        self.assertEqual(sent_by(Book(), "a", 0, LAST_DAY), [])

    def test_first_and_last_days_of_an_order(self):
        book = Book(("c", "a", 0, 9, 1), ("a", "b", 3, 5, 30))
        for first, last, found in ((0, 2, []), (0, 3, [1]), (5, 9, [1]), (6, LAST_DAY, []),
                                   (4, 4, [1]), (0, LAST_DAY, [1])):
            self.assertEqual(sent_by(book, "a", first, last), found)

    def test_orders_of_a_loop(self):
        self.assertEqual(sent_by(FOREVER, "a", 0, LAST_DAY), [0, 1])
        self.assertEqual(sent_by(FOREVER, "a", LAST_DAY, LAST_DAY), [0])
        self.assertEqual(sent_by(FOREVER, "b", LAST_DAY, LAST_DAY), [1])
        book = Book.chain(0, LAST_DAY, 30, *THIRTY, THIRTY[0])
        self.assertEqual(sent_by(book, THIRTY[9], 0, 0), list(range(30)))
        self.assertEqual(sent_by(book, THIRTY[9], LAST_DAY - 31, LAST_DAY), [9, 10])

    def test_an_order_for_one_of_all_letters(self):
        self.assertEqual(sent_by(CHANGED, "a", 0, LAST_DAY), [0, 1, 2, 3])
        self.assertEqual(sent_by(CHANGED, "x", 0, LAST_DAY), [0, 1, 2, 3, 4])
        self.assertEqual(sent_by(CHANGED, "b", MIDDLE + 1, MIDDLE + 1), [2])
        self.assertEqual(sent_by(CHANGED, "b", MIDDLE + 2, LAST_DAY), [0, 3])
        # Of three days in a row, one fits to the way out.
        self.assertEqual([2 in sent_by(CHANGED, "a", day, day) for day in range(3)].count(True), 1)
        fits = [2 in sent_by(CHANGED, "a", day, day) for day in range(3)].index(True)
        self.assertEqual(sent_by(CHANGED, "a", fits + 1, fits + 2), [0, 1, 3])
        self.assertEqual(sent_by(CHANGED, "a", fits + 1, fits + 3), [0, 1, 2, 3])

    def test_against_single_letters(self):
        for book in scattered_books(40):
            for address in "abcde":
                for first, last in ((0, 70), (5, 5), (3, 29), (17, 40), (30, 31), (60, 70)):
                    self.assertEqual(sent_by(book, address, first, last),
                                     slow.senders(book.orders, address, first, last))

    def test_great_days_against_single_letters(self):
        for small, great, _ in small_and_great_books(12):
            for address in "abcd":
                self.assertEqual(sent_by(great, address, 0, SETTLED - 15),
                                 slow.senders(small.orders, address, 0, SETTLED - 15))


class FirstAndLastDay(unittest.TestCase):

    def both(self, book, address, goal):
        return first_day_for(book, address, goal), last_day_for(book, address, goal)

    def test_ordinary_goals(self):
        self.assertEqual(self.both(TWO, "a", "a"), (4, LAST_DAY))
        self.assertEqual(self.both(TWO, "a", "b"), (0, 3))
        self.assertEqual(self.both(TWO, "b", "b"), (0, LAST_DAY))
        self.assertEqual(self.both(TWO, "b", "a"), (5, 12))

    def test_goals_that_are_never_reached(self):
        self.assertEqual(self.both(TWO, "a", "c"), (None, None))
        self.assertEqual(self.both(TWO, "c", "a"), (None, None))
        self.assertEqual(self.both(Book(), "a", "b"), (None, None))
        self.assertEqual(self.both(Book(("a", "b", 0, LAST_DAY, 1)), "a", "a"), (None, None))
        self.assertEqual(self.both(FOREVER, "a", "c"), (None, None))
        # Letters come through b on each day, but none ends there.
        book = Book(("a", "b", 0, 9, 1), ("b", "c", 0, 99, 1))
        self.assertEqual(self.both(book, "a", "b"), (None, None))

    def test_goals_that_are_always_reached(self):
        self.assertEqual(self.both(Book(), "a", "a"), (0, LAST_DAY))
        self.assertEqual(self.both(TWO, "c", "c"), (0, LAST_DAY))
        self.assertEqual(self.both(Book(("a", "b", 0, LAST_DAY, 30)), "a", "b"), (0, LAST_DAY))

    def test_first_and_last_days_of_all(self):
        book = Book(("a", "b", 0, 0, 1), ("a", "c", LAST_DAY, LAST_DAY, 1))
        self.assertEqual(self.both(book, "a", "b"), (0, 0))
        self.assertEqual(self.both(book, "a", "c"), (LAST_DAY, LAST_DAY))
        self.assertEqual(self.both(book, "a", "a"), (1, LAST_DAY - 1))

    def test_first_and_last_days_of_an_order(self):
        book = Book(("a", "b", 3, 5, 30), ("a", "b", 9, 9, 1))
        self.assertEqual(self.both(book, "a", "b"), (3, 9))
        self.assertEqual(self.both(book, "a", "a"), (0, LAST_DAY))

    def test_loops(self):
        self.assertEqual(self.both(FOREVER, "a", "b"), (0, LAST_DAY))
        self.assertEqual(self.both(FOREVER, "a", "a"), (1, LAST_DAY - 1))
        self.assertEqual(self.both(FOREVER, "b", "b"), (1, LAST_DAY - 1))
        book = Book.chain(0, LAST_DAY, 30, *THIRTY, THIRTY[0])
        for at in range(30):
            first, last = self.both(book, THIRTY[at], THIRTY[17])
            self.assertEqual(end(book, THIRTY[at], first)[0], THIRTY[17])
            self.assertEqual(end(book, THIRTY[at], last)[0], THIRTY[17])
            self.assertTrue(all(end(book, THIRTY[at], day)[0] != THIRTY[17]
                                for day in range(first)))
            self.assertTrue(all(end(book, THIRTY[at], day)[0] != THIRTY[17]
                                for day in range(last + 1, LAST_DAY + 1)))

    def test_the_way_out_on_a_single_day(self):
        first, last = self.both(CHANGED, "a", "c")
        self.assertEqual([first, last], [(MIDDLE - 1) % 3, MIDDLE - 1])
        self.assertEqual(self.both(CHANGED, "b", "c"), ((MIDDLE + 1) % 3, MIDDLE + 1))
        self.assertEqual(last_day_for(CHANGED, "x", "c"), MIDDLE - 31)

    def test_against_single_letters(self):
        reached = 0
        for book in scattered_books(60):
            for address in "abcde":
                ends = slow.daily_ends(book.orders, address, 0, 80)
                self.assertEqual(ends[-1], address)
                for goal in "abcde":
                    days = [day for day, found in enumerate(ends) if found == goal]
                    last = LAST_DAY if goal == address else days[-1] if days else None
                    self.assertEqual(self.both(book, address, goal), (days[0] if days else None, last))
                    reached += goal != address and len(days) > 0
        self.assertGreater(reached, 100)

    def test_great_days_against_single_letters(self):
        # In the long loops, each end comes again after a few days.
        half = PERIOD // 2
        for at, (small, great, shift) in enumerate(small_and_great_books(40)):
            address = "abcd"[at % 4]
            ends = [end(small, address, day)[0] for day in range(PERIOD + 100)]
            for goal in "abcd":
                days = [day for day, found in enumerate(ends) if found == goal]
                expected = [None, None]
                if days:
                    expected = [day if day < half else day + shift for day in (days[0], days[-1])]
                if goal == address:
                    expected[1] = LAST_DAY
                self.assertEqual(list(self.both(great, address, goal)), expected)


class FirstUnlikeDay(unittest.TestCase):

    def test_ordinary_books(self):
        self.assertEqual(first_unlike_day(TWO, TWO.without(1), "a", 0), 4)
        self.assertEqual(first_unlike_day(TWO, TWO.without(1), "a", 5), 5)
        self.assertEqual(first_unlike_day(TWO, TWO.without(1), "a", 9), 9)
        self.assertIsNone(first_unlike_day(TWO, TWO.without(1), "a", 10))
        self.assertEqual(first_unlike_day(TWO.without(1), TWO, "a", 0), 4)
        self.assertEqual(first_unlike_day(TWO, Book(), "b", 0), 5)

    def test_equal_ends(self):
        self.assertIsNone(first_unlike_day(TWO, TWO, "a", 0))
        self.assertIsNone(first_unlike_day(TWO, Book(*TWO.orders), "a", 0))
        self.assertIsNone(first_unlike_day(TWO, Book(), "c", 0))
        self.assertIsNone(first_unlike_day(Book(), Book(), "c", LAST_DAY))

    def test_the_address_of_the_end_counts_and_not_the_day(self):
        book = Book(("a", "b", 0, 9, 1))
        self.assertIsNone(first_unlike_day(book, Book(("a", "b", 0, 9, 2)), "a", 0))
        other = Book(("a", "c", 0, 9, 2), ("c", "b", 0, 20, 1))
        self.assertIsNone(first_unlike_day(book, other, "a", 0))

    def test_two_thousand_days(self):
        for first in (0, 7, 10 ** 17, LAST_DAY - 5000):
            for days, found in ((0, True), (1, True), (1999, True), (2000, False), (2001, False)):
                book = Book(("a", "b", first + days, first + days, 1))
                with self.subTest(first=first, days=days):
                    self.assertEqual(first_unlike_day(book, Book(), "a", first),
                                     first + days if found else None)

    def test_a_day_before_the_first_one(self):
        book = Book(("a", "b", 5, 5, 1))
        self.assertEqual(first_unlike_day(book, Book(), "a", 5), 5)
        self.assertIsNone(first_unlike_day(book, Book(), "a", 6))

    def test_the_last_day_of_all(self):
        book = Book(("a", "b", LAST_DAY, LAST_DAY, 1))
        for first in (LAST_DAY, LAST_DAY - 1, LAST_DAY - 1999):
            self.assertEqual(first_unlike_day(book, Book(), "a", first), LAST_DAY)
            self.assertIsNone(first_unlike_day(book, book, "a", first))
            self.assertIsNone(first_unlike_day(book, Book(), "b", first))
        self.assertIsNone(first_unlike_day(book, Book(), "a", LAST_DAY - 2000))

    def test_loops(self):
        # One of the loops is left on a single day, far behind these days.
        self.assertEqual(first_unlike_day(CHANGED, CHANGED.without(2), "a", 0), (MIDDLE - 1) % 3)
        self.assertEqual(first_unlike_day(FOREVER, FOREVER >> 0, "a", 5), None)
        shorter = Book.chain(0, LAST_DAY - 1, 1, "a", "b", "a")
        self.assertEqual(first_unlike_day(FOREVER, shorter, "a", 5), 5)

    def test_against_single_letters(self):
        chance = random.Random(7)
        unlike = 0
        for book in scattered_books(40):
            other = book.without(chance.randrange(len(book)))
            for address in "abcde":
                ends = slow.daily_ends(book.orders, address, 0, 70)
                others = slow.daily_ends(other.orders, address, 0, 70)
                days = [day for day in range(71) if ends[day] != others[day]]
                for first in (0, 5, 33):
                    expected = min((day for day in days if day >= first), default=None)
                    self.assertEqual(first_unlike_day(book, other, address, first), expected)
                    unlike += expected is not None
        self.assertGreater(unlike, 100)

    def test_great_days_against_single_letters(self):
        for _, great, shift in small_and_great_books(20):
            other = great.without(0)
            for first in (0, 31, shift, shift + PERIOD):
                days = [day for day in range(first, first + 60)
                        if end(great, "a", day)[0] != end(other, "a", day)[0]]
                found = first_unlike_day(great, other, "a", first)
                if days:
                    self.assertEqual(found, days[0])
                else:
                    self.assertTrue(found is None or found >= first + 60)


class Needless(unittest.TestCase):

    def test_ordinary_orders(self):
        book = Book(("a", "b", 5, 5, 1), ("b", "a", 6, 6, 1))
        self.assertEqual([is_needless(book, 0), is_needless(book, 1)], [True, False])
        self.assertEqual(needless_orders(book), [0])
        self.assertEqual([is_needless(TWO, 0), is_needless(TWO, 1)], [False, False])
        self.assertEqual(needless_orders(TWO), [])

    def test_books_of_one_order_and_of_none(self):
        self.assertEqual(needless_orders(Book()), [])
        self.assertEqual(needless_orders(Book(("a", "b", 0, LAST_DAY, 1))), [])

    def test_all_days_of_the_order_count(self):
        for first, last, found in ((5, 9, True), (4, 9, False), (5, 10, False), (6, 8, True)):
            book = Book(("a", "b", first, last, 1), ("b", "a", 6, 10, 1))
            # What is sent back on day 10 or before comes to a when the first order has ended,
            # or is sent on again.
            days = range(first, last + 1)
            expected = all(slow.daily_ends(book.orders, "a", day, day) == ["a"] for day in days)
            self.assertIs(is_needless(book, 0), expected)
            self.assertIs(is_needless(book, 0), found)

    def test_a_way_back_over_others(self):
        book = Book(("a", "b", 5, 7, 2), ("b", "c", 7, 9, 30), ("c", "d", 30, 50, 1),
                    ("d", "a", 38, 40, 1))
        self.assertEqual(needless_orders(book), [0])
        self.assertEqual(needless_orders(book.without(3)), [])

    def test_the_last_day_of_all(self):
        book = Book(("a", "b", LAST_DAY - 1, LAST_DAY - 1, 1), ("b", "a", 0, LAST_DAY, 1))
        self.assertEqual(needless_orders(book), [0])
        book = Book(("a", "b", LAST_DAY - 1, LAST_DAY, 1), ("b", "a", 0, LAST_DAY, 1))
        self.assertEqual(needless_orders(book), [])

    def test_loops_that_hold_for_ever(self):
        self.assertEqual(needless_orders(FOREVER), [])
        # What goes round until the last day comes back to a in the end.
        book = Book(("a", "b", 0, LAST_DAY - 1, 1), ("b", "a", 0, LAST_DAY, 1))
        self.assertEqual(needless_orders(book), [0])
        book = Book(("a", "b", 0, LAST_DAY - 1, 1), ("b", "a", 0, LAST_DAY - 1, 1))
        self.assertEqual(needless_orders(book), [])

    def test_orders_that_are_needless_one_by_one(self):
        # Two ways out and back, beside each other, and a third one that has no way back.
        book = Book(("a", "b", 5, 5, 1), ("b", "a", 6, 6, 1), ("a", "c", 15, 15, 1),
                    ("c", "a", 16, 16, 1), ("a", "d", 25, 25, 1))
        self.assertEqual(needless_orders(book), [0, 2])
        self.assertEqual(needless_orders(book.without(1)), [1])
        self.assertEqual(needless_orders(book.without(3)), [0])

    def test_without_one_order_and_without_all_of_them(self):
        # A letter that a needless order sends on comes back, so the others stay needless.
        needless = together = 0
        for book in scattered_books(60, 2):
            found = needless_orders(book)
            ends = {word: slow.daily_ends(book.orders, word, 0, 70) for word in "abcd"}
            for index in range(len(book)):
                without = book.without(index).orders
                same = all(slow.daily_ends(without, word, 0, 70) == ends[word] for word in "abcd")
                self.assertIs(is_needless(book, index), same)
                self.assertIs(index in found, same)
                needless += same
            without = book.without(*found).orders
            self.assertTrue(all(slow.daily_ends(without, word, 0, 70) == ends[word]
                                for word in "abcd"))
            together += len(found) > 1
            self.assertEqual(found, sorted(set(found)))
        self.assertGreater(needless, 50)
        self.assertGreater(together, 10)

    def test_great_days_against_small_ones(self):
        needless = 0
        for small, great, _ in small_and_great_books(60):
            expected = [index for index, (source, _, first, last, _) in enumerate(small.orders)
                        if all(end(small, source, day)[0] == source for day in range(first, last + 1))]
            self.assertEqual(needless_orders(great), expected)
            needless += any(great[index][3] > LAST_DAY // 2 for index in expected)
        self.assertGreater(needless, 5)

    def test_unknown_orders(self):
        for index in NOT_NUMBERS + [-1, -2, 2, 3, 30, 10 ** 30]:
            with self.subTest(index=index):
                found = raised(self, UnknownOrder, is_needless, TWO, index).index
                self.assertEqual((found, type(found)), (index, type(index)))
        self.assertEqual(raised(self, UnknownOrder, is_needless, Book(), 0).index, 0)


class Checks(unittest.TestCase):

    def test_wrong_addresses(self):
        for word in NOT_ADDRESSES:
            with self.subTest(word=word):
                for days in ((0, 9), (-1, 9), (9, 0), (None, None)):
                    raised(self, InvalidAddress, end_counts, TWO, word, *days)
                    raised(self, InvalidAddress, sent_by, TWO, word, *days)
                for call in (first_day_for, last_day_for):
                    raised(self, InvalidAddress, call, TWO, word, "a")
                    raised(self, InvalidAddress, call, TWO, "a", word)
                    raised(self, InvalidAddress, call, Book(), word, word)
                for day in (0, -1, None):
                    raised(self, InvalidAddress, first_unlike_day, TWO, Book(), word, day)

    def test_all_kinds_of_addresses(self):
        for word in ADDRESSES:
            self.assertEqual(end_counts(Book(), word, 0, 1), {word: 2})
            self.assertEqual(sent_by(Book(), word, 0, 1), [])
            self.assertEqual(first_day_for(Book(), word, word), 0)
            self.assertEqual(last_day_for(Book(), word, word), LAST_DAY)
            self.assertIsNone(first_unlike_day(Book(), Book(), word, 0))

    def test_wrong_days(self):
        for day in NOT_DAYS:
            with self.subTest(day=day):
                for call in (end_counts, sent_by):
                    raised(self, InvalidDay, call, TWO, "a", day, 9)
                    raised(self, InvalidDay, call, TWO, "a", 0, day)
                    raised(self, InvalidDay, call, TWO, "a", day, day)
                raised(self, InvalidDay, first_unlike_day, TWO, Book(), "a", day)

    def test_a_last_day_before_the_first_one(self):
        for first, last in ((1, 0), (9, 8), (LAST_DAY, LAST_DAY - 1), (LAST_DAY, 0)):
            for call in (end_counts, sent_by):
                raised(self, InvalidDay, call, TWO, "a", first, last)

    def test_nothing_changes(self):
        book = Book(*TWO.orders)
        calls = [lambda: end_counts(book, "a", 0, 9), lambda: end_counts(book, "a", 9, 0),
                 lambda: sent_by(book, "a", 0, 9), lambda: sent_by(book, "A", 0, 9),
                 lambda: first_day_for(book, "a", "b"), lambda: last_day_for(book, "a", "b"),
                 lambda: first_unlike_day(book, Book(), "a", 0), lambda: needless_orders(book),
                 lambda: first_unlike_day(book, Book(), "a", -1), lambda: is_needless(book, 2),
                 lambda: is_needless(book, 0)]
        for call in calls:
            self.assertEqual(outcome(call), outcome(call))
            self.assertEqual(book, TWO)

    def test_returned_lists_and_dicts_can_be_changed(self):
        found = end_counts(TWO, "a", 0, 9)
        found["a"] = 99
        found.pop("b")
        self.assertEqual(end_counts(TWO, "a", 0, 9), {"a": 6, "b": 4})
        for call, expected in ((lambda: sent_by(TWO, "a", 9, 20), [0, 1]),
                               (lambda: needless_orders(TWO), [])):
            found = call()
            found += [7, 8, 9]
            self.assertEqual(call(), expected)


if __name__ == "__main__":
    unittest.main()
