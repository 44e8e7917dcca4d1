"""Orders that are prolonged: points 1 and 9."""

import inspect
import random
import types
import unittest

import slow
from mailforwards import prolonging
from mailforwards.books import Book
from mailforwards.errors import InvalidAddress, InvalidDay, InvalidOrder, UnknownOrder
from mailforwards.letters import end
from mailforwards.prolonging import day_if_prolonged, orders_to_prolong, prolonged
from samples import PERIOD, SETTLED, SHIFT, scattered_books, stretched_books
from wrong import ADDRESSES, LAST_DAY, NOT_ADDRESSES, NOT_DAYS, NOT_NUMBERS, outcome, raised

CHAIN = Book(("a", "b", 0, 3, 1), ("b", "c", 0, 3, 1))
THIRTY = [first + second for first in "abcde" for second in "uvwxyz"]


def both(book, address, day, goal):
    """What both functions tell of a letter and a goal."""
    return (orders_to_prolong(book, address, day, goal), day_if_prolonged(book, address, day, goal))


class Names(unittest.TestCase):

    def test_functions_are_defined_in_their_file(self):
        names = {"prolonged": ["book", "index", "day"],
                 "orders_to_prolong": ["book", "address", "day", "goal"],
                 "day_if_prolonged": ["book", "address", "day", "goal"]}
        for name, parameters in names.items():
            found = vars(prolonging)[name]
            self.assertIsInstance(found, types.FunctionType)
            self.assertEqual(found.__module__, "mailforwards.prolonging")
            self.assertEqual(list(inspect.signature(found).parameters), parameters)

    def test_kinds(self):
        self.assertIsInstance(prolonged(CHAIN, 0, 9), Book)
        self.assertIs(type(orders_to_prolong(CHAIN, "a", 9, "c")), list)
        self.assertIs(type(day_if_prolonged(CHAIN, "a", 9, "c")), int)


class Prolonged(unittest.TestCase):

    def test_ordinary_days(self):
        found = prolonged(CHAIN, 1, 9)
        self.assertEqual(found.orders, (("a", "b", 0, 3, 1), ("b", "c", 0, 9, 1)))
        self.assertEqual(prolonged(CHAIN, 0, 9)[0], ("a", "b", 0, 9, 1))
        self.assertEqual(CHAIN.orders, (("a", "b", 0, 3, 1), ("b", "c", 0, 3, 1)))

    def test_its_own_last_day_and_the_day_before_it(self):
        self.assertEqual(prolonged(CHAIN, 0, 3), CHAIN)
        self.assertEqual(prolonged(CHAIN, 0, 4)[0], ("a", "b", 0, 4, 1))
        raised(self, InvalidDay, prolonged, CHAIN, 0, 2)
        raised(self, InvalidDay, prolonged, CHAIN, 0, 0)
        one = Book(("a", "b", 5, 5, 1))
        self.assertEqual(prolonged(one, 0, 5), one)
        raised(self, InvalidDay, prolonged, one, 0, 4)

    def test_the_last_day_of_all_and_beyond(self):
        self.assertEqual(prolonged(CHAIN, 0, LAST_DAY)[0], ("a", "b", 0, LAST_DAY, 1))
        raised(self, InvalidDay, prolonged, CHAIN, 0, LAST_DAY + 1)
        late = Book(("a", "b", 5, LAST_DAY, 1))
        self.assertEqual(prolonged(late, 0, LAST_DAY), late)
        raised(self, InvalidDay, prolonged, late, 0, LAST_DAY - 1)
        raised(self, InvalidDay, prolonged, late, 0, LAST_DAY + 1)

    def test_into_another_order_of_the_same_source(self):
        book = Book(("a", "b", 0, 3, 1), ("b", "c", 0, 99, 1), ("a", "c", 10, 12, 1),
                    ("a", "d", 6, 7, 1))
        self.assertEqual(len(prolonged(book, 0, 5)), 4)
        self.assertEqual(raised(self, InvalidOrder, prolonged, book, 0, 6).index, 3)
        self.assertEqual(raised(self, InvalidOrder, prolonged, book, 0, 10).index, 2)
        self.assertEqual(raised(self, InvalidOrder, prolonged, book, 0, LAST_DAY).index, 2)
        self.assertEqual(raised(self, InvalidOrder, prolonged, book, 3, 10).index, 3)
        self.assertEqual(len(prolonged(book, 3, 9)), 4)
        self.assertEqual(prolonged(book, 2, LAST_DAY)[2], ("a", "c", 10, LAST_DAY, 1))
        self.assertEqual(prolonged(book, 1, LAST_DAY)[1], ("b", "c", 0, LAST_DAY, 1))

    def test_unknown_orders(self):
        for index in NOT_NUMBERS + [-1, -2, 2, 3, 30, 10 ** 30]:
            for day in (9, 2, None):
                with self.subTest(index=index, day=day):
                    found = raised(self, UnknownOrder, prolonged, CHAIN, index, day).index
                    self.assertEqual((found, type(found)), (index, type(index)))
        self.assertEqual(raised(self, UnknownOrder, prolonged, Book(), 0, 9).index, 0)

    def test_wrong_days(self):
        for day in NOT_DAYS:
            with self.subTest(day=day):
                raised(self, InvalidDay, prolonged, CHAIN, 0, day)

    def test_a_wrong_day_comes_before_a_common_day(self):
        book = Book(("a", "b", 0, 3, 1), ("a", "c", 6, 7, 1))
        raised(self, InvalidDay, prolonged, book, 0, LAST_DAY + 1)
        raised(self, InvalidOrder, prolonged, book, 0, LAST_DAY)


class ToGoal(unittest.TestCase):

    def test_ordinary_letters(self):
        self.assertEqual(both(CHAIN, "a", 9, "c"), ([0, 1], 11))
        self.assertEqual(both(CHAIN, "b", 9, "c"), ([1], 10))
        self.assertEqual(both(CHAIN, "a", 3, "c"), ([1], 5))
        self.assertEqual(both(CHAIN, "a", 9, "b"), ([0], 10))

    def test_a_letter_that_ends_there_anyway(self):
        self.assertEqual(both(CHAIN, "a", 2, "c"), ([], 4))
        self.assertEqual(both(CHAIN, "a", 3, "b"), ([], 4))
        self.assertEqual(both(CHAIN, "a", 9, "a"), ([], 9))
        self.assertEqual(both(Book(), "a", 9, "a"), ([], 9))
        self.assertEqual(both(Book(), "a", LAST_DAY, "a"), ([], LAST_DAY))

    def test_a_letter_that_cannot_come_there(self):
        self.assertEqual(both(CHAIN, "c", 0, "a"), (None, None))
        self.assertEqual(both(CHAIN, "a", 9, "d"), (None, None))
        self.assertEqual(both(CHAIN, "d", 9, "c"), (None, None))
        self.assertEqual(both(Book(), "a", 9, "b"), (None, None))

    def test_an_order_that_has_not_begun_is_not_prolonged(self):
        book = Book(("a", "b", 10, 20, 1))
        self.assertEqual(both(book, "a", 9, "b"), (None, None))
        self.assertEqual(both(book, "a", 10, "b"), ([], 11))
        self.assertEqual(both(book, "a", 20, "b"), ([], 21))
        self.assertEqual(both(book, "a", 21, "b"), ([0], 22))
        book = Book(("a", "b", 10, 20, 1), ("b", "c", 30, 40, 1))
        self.assertEqual(both(book, "a", 28, "c"), (None, None))
        self.assertEqual(both(book, "a", 29, "c"), ([0], 31))
        self.assertEqual(both(book, "a", 40, "c"), ([0, 1], 42))

    def test_the_order_that_ended_last(self):
        orders = [("a", "b", 0, 3, 1), ("a", "c", 10, 12, 2), ("a", "d", 5, 6, 3)]
        for words in ((0, 1, 2), (2, 1, 0), (1, 2, 0), (1, 0, 2)):
            book = Book(*[orders[word] for word in words])
            for day, goal, order in ((4, "b", 0), (7, "d", 2), (9, "d", 2), (13, "c", 1)):
                way = orders[order][4]
                self.assertEqual(both(book, "a", day, goal), ([words.index(order)], day + way))
            self.assertEqual(both(book, "a", 7, "b"), (None, None))
            self.assertEqual(both(book, "a", 13, "d"), (None, None))
            self.assertEqual(both(book, "a", 5, "d"), ([], 8))

    def test_an_order_that_holds_is_followed(self):
        # What arrives at a on day 5 is sent on to b, so no order of a is prolonged.
        book = Book(("a", "c", 0, 4, 1), ("a", "b", 5, 5, 1), ("b", "d", 0, 1, 1))
        self.assertEqual(both(book, "a", 5, "c"), (None, None))
        self.assertEqual(both(book, "a", 5, "d"), ([2], 7))

    def test_a_goal_without_an_order_on_the_day_of_arrival(self):
        # The order of b has ended when a letter comes there: it is not prolonged.
        self.assertEqual(both(CHAIN, "a", 5, "b"), ([0], 6))
        book = Book(("a", "b", 0, 3, 1), ("b", "a", 9, 9, 1))
        self.assertEqual(both(book, "a", 5, "b"), ([0], 6))
        self.assertEqual(both(book, "b", 10, "b"), ([], 10))

    def test_a_goal_with_an_order_on_the_day_of_arrival(self):
        book = Book(("a", "b", 0, 3, 1), ("b", "c", 6, 6, 1), ("c", "a", 0, 2, 1))
        self.assertEqual(both(book, "a", 4, "b"), ([0], 5))
        # On day 6 the letter is sent on from b, and comes back there on day 9.
        self.assertEqual(both(book, "a", 5, "b"), ([0, 2], 9))
        self.assertEqual(both(book, "b", 6, "b"), ([2, 0], 9))
        self.assertEqual(both(book, "b", 6, "c"), ([], 7))
        book = Book(("a", "b", 0, 3, 1), ("b", "c", 6, 6, 1))
        self.assertEqual(both(book, "a", 5, "b"), (None, None))

    def test_the_goal_is_the_address_of_the_letter(self):
        self.assertEqual(both(CHAIN, "a", 3, "a"), (None, None))
        book = CHAIN + Book(("c", "a", 0, 0, 5))
        self.assertEqual(both(book, "a", 3, "a"), ([1, 2], 10))
        self.assertEqual(both(book, "a", 4, "a"), ([], 4))

    def test_orders_that_are_needed_several_times(self):
        # Between a and b, until on day 20 a new order of b holds.
        book = Book(("b", "a", 0, 1, 1), ("a", "b", 0, 0, 1), ("b", "c", 20, 20, 1),
                    ("c", "d", 3, 3, 1))
        self.assertEqual(both(book, "a", 5, "d"), ([1, 0, 3], 22))
        self.assertEqual(both(book, "b", 6, "d"), ([0, 1, 3], 22))
        self.assertEqual(both(book, "b", 20, "d"), ([3], 22))
        # Behind day 20, the order that ended last is the new one.
        self.assertEqual(both(book, "b", 5, "d"), ([0, 1, 2, 3], 23))
        self.assertEqual(both(book, "b", 21, "d"), ([2, 3], 23))
        self.assertEqual(both(book, "b", 21, "a"), (None, None))

    def test_loops_of_ended_orders(self):
        book = Book(("a", "b", 0, 1, 1), ("b", "a", 0, 1, 1), ("c", "a", 0, 1, 1))
        for day in (0, 1, 2, 9, LAST_DAY - 1, LAST_DAY):
            for address in "abc":
                self.assertEqual(both(book, address, day, "d"), (None, None))
        for day in (2, 9, LAST_DAY):
            self.assertEqual(both(book, "b", day, "c"), (None, None))
            self.assertEqual(both(book, "c", day, "b"), ([2, 0], day + 2))
        longest = Book.chain(0, 0, 30, *THIRTY, THIRTY[0])
        self.assertEqual(both(longest, THIRTY[0], 7, "x"), (None, None))
        self.assertEqual(both(longest, THIRTY[0], 0, THIRTY[29]), (list(range(1, 29)), 29 * 30))
        self.assertEqual(both(longest, THIRTY[0], 1, THIRTY[29]), (list(range(29)), 29 * 30 + 1))
        self.assertEqual(both(longest, THIRTY[0], 0, THIRTY[0]), (list(range(1, 30)), 900))

    def test_days_beyond_the_last_one_of_all(self):
        chain = Book.chain(0, 0, 30, *THIRTY, "end")
        self.assertEqual(both(chain, THIRTY[0], LAST_DAY, "end"),
                         (list(range(30)), LAST_DAY + 900))
        self.assertEqual(both(chain, THIRTY[0], 0, "end"), (list(range(1, 30)), 900))
        self.assertEqual(both(chain, THIRTY[29], LAST_DAY, "end"), ([29], LAST_DAY + 30))
        late = Book.chain(0, LAST_DAY, 30, *THIRTY, "end")
        self.assertEqual(both(late, THIRTY[0], LAST_DAY, "end"),
                         (list(range(1, 30)), LAST_DAY + 900))
        self.assertEqual(both(late, THIRTY[0], LAST_DAY - 900, "end"), ([], LAST_DAY))
        self.assertEqual(both(late, THIRTY[0], LAST_DAY - 899, "end"), ([], LAST_DAY + 1))
        self.assertEqual(both(late, THIRTY[0], LAST_DAY - 869, "end"), ([29], LAST_DAY + 31))

    def test_loops_that_hold_for_ever(self):
        forever = Book.chain(0, LAST_DAY, 1, "a", "b", "a")
        self.assertEqual(both(forever, "a", 0, "b"), ([], LAST_DAY + 1))
        self.assertEqual(both(forever, "b", 0, "b"), ([0], LAST_DAY + 2))
        self.assertEqual(both(forever, "a", 0, "c"), (None, None))
        self.assertEqual(both(forever, "b", LAST_DAY, "b"), ([0], LAST_DAY + 2))

    def test_loops_of_ended_orders_that_are_left_after_many_days(self):
        middle = 10 ** 17
        book = Book(("a", "b", 0, 0, 2), ("b", "a", 0, 1, 1), ("b", "c", middle, middle, 4))
        for day in (3, 4, 5):
            # The letter is at b two days after each arrival at a, and is there again in three.
            left = middle + (day + 2 - middle) % 3
            needed = [0, 1] if left == middle else [0, 1, 2]
            self.assertEqual(both(book, "a", day, "c"), (needed, left + 4))
            self.assertEqual(both(book, "a", day, "d"), (None, None))
        self.assertEqual(both(book, "b", middle, "c"), ([], middle + 4))
        self.assertEqual(both(book, "b", middle - 1, "a"), ([1], middle))
        self.assertEqual(both(book, "b", middle + 1, "a"), (None, None))

    def test_an_order_is_prolonged_in_the_middle_of_a_loop(self):
        # The order of a ends in the middle of all days, the first one of b at their end.
        middle = 5 * 10 ** 17
        book = Book(("b", "a", 0, LAST_DAY - 1, 1), ("a", "b", 0, middle, 1),
                    ("b", "c", LAST_DAY, LAST_DAY, 1))
        self.assertEqual(both(book, "b", 0, "c"), ([1], LAST_DAY + 1))
        self.assertEqual(both(book, "a", 1, "c"), ([1], LAST_DAY + 1))
        # One day later, the last order of b is prolonged, too.
        self.assertEqual(both(book, "b", 1, "c"), ([1, 2], LAST_DAY + 2))
        self.assertEqual(both(book, "b", 1, "d"), (None, None))


class AgainstSingleLetters(unittest.TestCase):

    def test_against_single_letters(self):
        chance = random.Random(9)
        several = never = 0
        for book in scattered_books(120):
            book = book.without(*chance.sample(range(len(book)), len(book) // 2))
            for address in "abcde":
                for goal in "abcde":
                    day = chance.randrange(80)
                    found = slow.prolonging(book.orders, address, day, goal, 400)
                    if found is None:
                        self.assertEqual(both(book, address, day, goal), (None, None))
                        never += 1
                        continue
                    needed, last, orders = found
                    self.assertEqual(both(book, address, day, goal), (needed, last))
                    self.assertEqual(end(Book(*orders), address, day), (goal, last))
                    several += len(needed) > 1
        self.assertGreater(several, 200)
        self.assertGreater(never, 200)

    def test_with_ends_that_need_no_order(self):
        for book in scattered_books(40):
            for address in "abcd":
                for day in range(0, 70, 9):
                    goal, last = slow.arrivals(book.orders, address, day)[-1]
                    self.assertEqual(both(book, address, day, goal), ([], last))

    def test_great_days_against_single_letters(self):
        chance = random.Random(99)
        late = 0
        for small, great in stretched_books(80, PERIOD, PERIOD + SHIFT):
            gone = chance.sample(range(len(small)), len(small) // 2)
            small, great = small.without(*gone), great.without(*gone)
            for _ in range(12):
                address, goal, day = chance.choice("abcd"), chance.choice("abcd"), chance.randrange(28)
                found = slow.prolonging(small.orders, address, day, goal, PERIOD + 400)
                if found is None:
                    self.assertEqual(both(great, address, day, goal), (None, None))
                    continue
                needed, last, _ = found
                late += last > SETTLED and len(needed) > 0
                expected = last if last <= SETTLED else last + SHIFT
                self.assertEqual(both(great, address, day, goal), (needed, expected))
        self.assertGreater(late, 50)


class Checks(unittest.TestCase):

    def test_wrong_addresses(self):
        for word in NOT_ADDRESSES:
            for call in (orders_to_prolong, day_if_prolonged):
                with self.subTest(word=word):
                    for day in (0, -1, None):
                        raised(self, InvalidAddress, call, CHAIN, word, day, "c")
                        raised(self, InvalidAddress, call, CHAIN, word, day, "C")
                    for day in (0, LAST_DAY):
                        raised(self, InvalidAddress, call, CHAIN, "a", day, word)

    def test_wrong_days(self):
        for day in NOT_DAYS:
            for goal in ("c", "C", None):
                for call in (orders_to_prolong, day_if_prolonged):
                    with self.subTest(day=day, goal=goal):
                        raised(self, InvalidDay, call, CHAIN, "a", day, goal)

    def test_all_kinds_of_addresses(self):
        for word in ADDRESSES:
            self.assertEqual(both(Book(), word, 5, word), ([], 5))
            self.assertEqual(both(Book(), word, 5, "q"), (None, None))
            self.assertEqual(both(Book(("q", word, 0, 0, 1)), "q", 5, word), ([0], 6))

    def test_nothing_changes(self):
        book = Book(*CHAIN.orders)
        calls = [lambda: prolonged(book, 0, 9), lambda: prolonged(book, 0, 2),
                 lambda: prolonged(book, 2, 9), lambda: orders_to_prolong(book, "a", 9, "c"),
                 lambda: orders_to_prolong(book, "a", 9, "C"),
                 lambda: day_if_prolonged(book, "a", 9, "c"),
                 lambda: day_if_prolonged(book, "a", -1, "c")]
        for call in calls:
            self.assertEqual(outcome(call), outcome(call))
            self.assertEqual(book, CHAIN)

    def test_returned_lists_can_be_changed(self):
        found = orders_to_prolong(CHAIN, "a", 9, "c")
        found.clear()
        self.assertEqual(orders_to_prolong(CHAIN, "a", 9, "c"), [0, 1])


if __name__ == "__main__":
    unittest.main()
