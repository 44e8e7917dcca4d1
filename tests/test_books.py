"""Books: points 1 to 3."""

import copy
import inspect
import unittest

from mailforwards.books import Book
from mailforwards.errors import (InvalidAddress, InvalidDay, InvalidNumber, InvalidOrder,
                                 UnknownOrder)
from wrong import ADDRESSES, LAST_DAY, NOT_ADDRESSES, NOT_DAYS, NOT_NUMBERS, NOT_WAYS, raised

TWO = (("a", "b", 0, 9, 1), ("b", "a", 5, 12, 2))
GOOD = ("a", "b", 0, 9, 1)


def many_orders(count):
    """So many orders, each of which sends on from a on another day."""
    return [("a", "b", day, day, 1) for day in range(count)]


class Names(unittest.TestCase):

    def test_class_and_methods_are_defined_in_their_file(self):
        self.assertEqual(Book.__module__, "mailforwards.books")
        for name in ("chain", "orders", "addresses", "MAX_ORDERS", "without", "order_at",
                     "__len__", "__getitem__", "__contains__", "__add__", "__rshift__", "__eq__"):
            self.assertIn(name, vars(Book), name)

    def test_names_of_parameters(self):
        names = {call: list(inspect.signature(getattr(Book, call)).parameters)
                 for call in ("chain", "without", "order_at")}
        self.assertEqual(names["chain"], ["first", "last", "way", "addresses"])
        self.assertEqual(names["without"], ["self", "indexes"])
        self.assertEqual(names["order_at"], ["self", "address", "day"])
        self.assertEqual(list(inspect.signature(Book).parameters), ["orders"])

    def test_kinds(self):
        self.assertIsInstance(Book.chain(0, 1, 1, "a", "b"), Book)
        self.assertIsInstance(vars(Book)["chain"], classmethod)
        self.assertIsInstance(vars(Book)["orders"], property)
        self.assertIsInstance(vars(Book)["addresses"], property)
        self.assertEqual(Book(*TWO).order_at(address="b", day=5), 1)


class Orders(unittest.TestCase):

    def refused(self, *orders):
        return raised(self, InvalidOrder, Book, *orders).index

    def test_no_orders(self):
        book = Book()
        self.assertEqual([book.orders, book.addresses, len(book)], [(), (), 0])

    def test_ordinary_orders(self):
        self.assertEqual(Book(*TWO).orders, TWO)

    def test_addresses_of_one_to_eight_letters(self):
        for word in ADDRESSES:
            for order in ((word, "b", 0, 9, 1), ("b", word, 0, 9, 1)):
                self.assertEqual(Book(order).orders, (order,))

    def test_wrong_addresses(self):
        for word in NOT_ADDRESSES:
            with self.subTest(word=word):
                self.assertEqual(self.refused((word, "b", 0, 9, 1)), 0)
                self.assertEqual(self.refused(GOOD, ("b", word, 0, 9, 1)), 1)

    def test_source_and_target_are_different(self):
        self.assertEqual(self.refused(("a", "a", 0, 9, 1)), 0)
        self.assertEqual(self.refused(GOOD, ("abcdefgh", "abcdefgh", 0, 9, 1)), 1)

    def test_days_from_0_to_the_last_one(self):
        for first, last in ((0, 0), (0, LAST_DAY), (LAST_DAY, LAST_DAY), (7, 7), (7, 8)):
            order = ("a", "b", first, last, 1)
            self.assertEqual(Book(order).orders, (order,))

    def test_wrong_days(self):
        for day in NOT_DAYS:
            with self.subTest(day=day):
                self.assertEqual(self.refused(("a", "b", day, 9, 1)), 0)
                self.assertEqual(self.refused(GOOD, ("b", "a", 0, day, 1)), 1)
                self.assertEqual(self.refused(("a", "b", day, day, 1)), 0)

    def test_first_day_behind_the_last_one(self):
        self.assertEqual(self.refused(("a", "b", 8, 7, 1)), 0)
        self.assertEqual(self.refused(GOOD, ("b", "a", LAST_DAY, 0, 1)), 1)

    def test_ways_from_1_to_30(self):
        for way in (1, 2, 29, 30):
            self.assertEqual(Book(("a", "b", 0, 9, way))[0][4], way)

    def test_wrong_ways(self):
        for way in NOT_WAYS:
            with self.subTest(way=way):
                self.assertEqual(self.refused(("a", "b", 0, 9, way)), 0)

    def test_what_is_no_tuple_of_five(self):
        wrong = [None, True, False, 0, 5, "", "order", "abcde", (), [], ["a", "b", 0, 9, 1],
                 ("a",), ("a", "b", 0, 9), ("a", "b", 0, 9, 1, 1), (GOOD,), [GOOD],
                 (("a", "b"), 0, 9, 1), ("b", 0, 9, 1), (0, 9, 1, "a", "b")]
        for value in wrong:
            with self.subTest(value=value):
                self.assertEqual(self.refused(value), 0)
                self.assertEqual(self.refused(GOOD, value), 1)
                self.assertEqual(self.refused(GOOD, ("b", "a", 0, 9, 1), value, value), 2)

    def test_orders_of_one_source_share_no_day(self):
        for first, last in ((10, 20), (0, 10), (20, 30), (0, 30), (12, 18), (9, 10), (20, 21),
                            (10, 10), (20, 20), (15, 15)):
            with self.subTest(first=first, last=last):
                self.assertEqual(self.refused(("a", "b", 10, 20, 1), ("a", "c", first, last, 2)), 1)

    def test_orders_of_one_source_may_touch(self):
        for first, last in ((0, 9), (9, 9), (21, 21), (21, LAST_DAY)):
            with self.subTest(first=first, last=last):
                book = Book(("a", "b", 10, 20, 1), ("a", "b", first, last, 2))
                self.assertEqual(len(book), 2)

    def test_orders_of_other_sources_may_share_days(self):
        orders = (GOOD, ("b", "a", 0, 9, 1), ("c", "b", 0, 9, 1), ("ab", "b", 0, 9, 1))
        self.assertEqual(Book(*orders).orders, orders)

    def test_the_common_day_may_be_with_any_earlier_order(self):
        orders = [("a", "b", 0, 9, 1), ("b", "c", 0, 9, 1), ("a", "c", 10, 19, 1),
                  ("c", "a", 0, 9, 1), ("a", "c", 30, 39, 1)]
        self.assertEqual(len(Book(*orders)), 5)
        for day in (0, 9, 10, 19, 30, 39):
            self.assertEqual(self.refused(*orders, ("a", "d", day, day, 1)), 5)
        self.assertEqual(len(Book(*orders, ("a", "d", 20, 29, 1))), 6)

    def test_thirty_orders_and_one_more(self):
        self.assertEqual(len(Book(*many_orders(30))), 30)
        self.assertEqual(self.refused(*many_orders(31)), 30)
        self.assertEqual(self.refused(*many_orders(40)), 30)
        self.assertEqual(self.refused(*many_orders(30), None), 30)

    def test_the_first_wrong_argument_is_told(self):
        orders = many_orders(40)
        orders[35] = None
        self.assertEqual(self.refused(*orders), 30)
        orders[29] = ("a", "b", 0, 0, 1)
        self.assertEqual(self.refused(*orders), 29)
        orders[12] = None
        self.assertEqual(self.refused(*orders), 12)
        self.assertEqual(self.refused(GOOD, GOOD, None), 1)
        self.assertEqual(self.refused(GOOD, None, GOOD), 1)

    def test_limit_is_a_class_value(self):
        self.assertEqual(Book.MAX_ORDERS, 30)
        self.assertEqual(Book(GOOD).MAX_ORDERS, 30)

    def test_addresses_ascend_and_occur_once(self):
        book = Book(("z", "b", 0, 9, 1), ("ab", "z", 0, 9, 1), ("b", "a", 0, 9, 1),
                    ("z", "abc", 10, 12, 1))
        self.assertEqual(book.addresses, ("a", "ab", "abc", "b", "z"))
        self.assertEqual(Book(*TWO).addresses, ("a", "b"))
        self.assertIsInstance(book.addresses, tuple)

    def test_properties_cannot_be_assigned(self):
        book = Book(*TWO)
        for name in ("orders", "addresses"):
            with self.assertRaises(AttributeError):
                setattr(book, name, ())
        self.assertEqual(book, Book(*TWO))


class Chain(unittest.TestCase):

    def test_each_address_to_the_next_one(self):
        book = Book.chain(3, 8, 30, "c", "a", "bb", "c")
        self.assertEqual(book.orders, (("c", "a", 3, 8, 30), ("a", "bb", 3, 8, 30),
                                       ("bb", "c", 3, 8, 30)))

    def test_no_pair_of_addresses(self):
        self.assertEqual(Book.chain(0, 5, 1), Book())
        self.assertEqual(Book.chain(0, 5, 1, "a"), Book())

    def test_by_name(self):
        self.assertEqual(Book.chain(way=2, last=5, first=0), Book())

    def test_wrong_days_and_ways(self):
        for arguments in ((5, 4, 1), (-1, 5, 1), (0, LAST_DAY + 1, 1), (0, 5, 0), (0, 5, 31),
                          (None, 5, 1), (0, True, 1), (0, 5, "1"), (0, 5, [1])):
            with self.subTest(arguments=arguments):
                found = raised(self, InvalidOrder, Book.chain, *arguments, "a", "b", "c")
                self.assertEqual(found.index, 0)

    def test_wrong_addresses(self):
        for word in NOT_ADDRESSES:
            with self.subTest(word=word):
                found = raised(self, InvalidOrder, Book.chain, 0, 5, 1, "a", "b", word, "c")
                self.assertEqual(found.index, 1)
        self.assertEqual(raised(self, InvalidOrder, Book.chain, 0, 5, 1, "A", "b").index, 0)

    def test_an_address_again(self):
        for words, index in (("aa", 0), ("abb", 1), ("aba", None), ("abab", 2), ("abcbd", 3)):
            with self.subTest(words=words):
                if index is None:
                    self.assertEqual(len(Book.chain(0, 5, 1, *words)), 2)
                else:
                    found = raised(self, InvalidOrder, Book.chain, 0, 5, 1, *words)
                    self.assertEqual(found.index, index)

    def test_thirty_orders_and_one_more(self):
        words = ["x" + letter for letter in "abcdefghijklmnopqrstuvwxyz"] + list("abcdef")
        book = Book.chain(0, LAST_DAY, 1, *words[:31])
        self.assertEqual([len(book), book[29]], [30, ("d", "e", 0, LAST_DAY, 1)])
        self.assertEqual(raised(self, InvalidOrder, Book.chain, 0, 5, 1, *words).index, 30)


class Signs(unittest.TestCase):

    def setUp(self):
        self.book = Book(*TWO)

    def test_length(self):
        self.assertEqual([len(Book()), len(Book(GOOD)), len(self.book)], [0, 1, 2])

    def test_order_by_index(self):
        self.assertEqual([self.book[0], self.book[1]], list(TWO))

    def test_unknown_orders(self):
        for index in NOT_NUMBERS + [-1, -2, -3, 2, 3, 30, 10 ** 30]:
            with self.subTest(index=index):
                found = raised(self, UnknownOrder, lambda: self.book[index]).index
                self.assertEqual((found, type(found)), (index, type(index)))
        self.assertEqual(raised(self, UnknownOrder, lambda: Book()[0]).index, 0)

    def test_address_in_book(self):
        book = Book(("ab", "c", 0, 9, 1), ("d", "ab", 0, 9, 1))
        for word in ("ab", "c", "d"):
            self.assertIs(word in book, True)
        for word in ("a", "b", "e", "abc", "", "AB", "c ", "no address"):
            self.assertIs(word in book, False)
        self.assertIs("a" in Book(), False)

    def test_what_is_no_string_is_not_in_a_book(self):
        for value in (None, True, False, 0, 1, 9, (), ("a",), TWO[0], [], ["a"], self.book):
            self.assertIs(value in self.book, False)
            self.assertIs(value in Book(), False)

    def test_sum_of_books(self):
        other = Book(("c", "a", 0, 9, 1), ("a", "c", 10, 12, 2))
        self.assertEqual((self.book + other).orders, self.book.orders + other.orders)
        self.assertEqual((other + self.book).orders, other.orders + self.book.orders)
        self.assertEqual(self.book + Book(), self.book)
        self.assertEqual(Book() + self.book, self.book)
        self.assertEqual([self.book.orders, len(other)], [TWO, 2])

    def test_sum_with_a_common_day(self):
        other = Book(("c", "a", 0, 9, 1), ("b", "c", 12, 12, 2), ("a", "c", 9, 9, 1))
        self.assertEqual(raised(self, InvalidOrder, lambda: self.book + other).index, 3)
        self.assertEqual(raised(self, InvalidOrder, lambda: self.book + self.book).index, 2)

    def test_sum_of_thirty_orders_and_one_more(self):
        half = Book(*many_orders(15))
        self.assertEqual(len(half + (half >> 15)), 30)
        other = (half >> 15) + Book(GOOD[1:2] + ("a", 0, 9, 1))
        self.assertEqual(raised(self, InvalidOrder, lambda: half + other).index, 30)

    def test_later_days(self):
        self.assertEqual((self.book >> 3).orders, (("a", "b", 3, 12, 1), ("b", "a", 8, 15, 2)))
        self.assertEqual((self.book >> 0), self.book)
        self.assertEqual(self.book >> 7 >> -7, self.book)
        self.assertEqual(self.book.orders, TWO)

    def test_later_days_at_the_limits(self):
        early = Book(("a", "b", 0, 0, 1))
        late = Book(("a", "b", LAST_DAY, LAST_DAY, 1))
        self.assertEqual([early >> LAST_DAY, late >> -LAST_DAY], [late, early])
        self.assertEqual([late >> 0, early >> 0], [late, early])
        self.assertEqual(Book() >> LAST_DAY, Book())
        self.assertEqual(Book() >> -LAST_DAY, Book())

    def test_later_days_beyond_the_limits(self):
        found = raised(self, InvalidOrder, lambda: self.book >> -1)
        self.assertEqual(found.index, 0)
        book = Book(("a", "b", 5, 9, 1), ("b", "a", 4, 4, 1), ("c", "a", 3, LAST_DAY - 2, 1))
        self.assertEqual([raised(self, InvalidOrder, lambda: book >> days).index
                          for days in (-4, -5, -6, 3, LAST_DAY)], [2, 1, 0, 2, 0])
        self.assertEqual([(book >> days)[2][2:4] for days in (-3, 2)],
                         [(0, LAST_DAY - 5), (5, LAST_DAY)])

    def test_wrong_days(self):
        for days in NOT_NUMBERS + [-LAST_DAY - 1, LAST_DAY + 1, 10 ** 30]:
            for book in (self.book, Book()):
                with self.subTest(days=days):
                    raised(self, InvalidNumber, lambda: book >> days)

    def test_wrong_days_come_before_wrong_orders(self):
        raised(self, InvalidNumber, lambda: self.book >> -LAST_DAY - 1)
        raised(self, InvalidOrder, lambda: self.book >> -LAST_DAY)
        raised(self, InvalidOrder, lambda: self.book >> LAST_DAY)

    def test_equal_books(self):
        self.assertIs(self.book == Book(*TWO), True)
        self.assertIs(self.book != Book(*TWO), False)
        self.assertIs(Book() == Book(), True)

    def test_books_that_are_not_equal(self):
        for other in (Book(TWO[1], TWO[0]), Book(TWO[0]), Book(), self.book >> 1,
                      Book(TWO[0], ("b", "a", 5, 12, 3)), Book(TWO[0], ("b", "c", 5, 12, 2))):
            self.assertIs(self.book == other, False)
            self.assertIs(self.book != other, True)

    def test_a_book_is_not_equal_to_anything_else(self):
        for other in (TWO, list(TWO), None, True, False, 2, "book", ()):
            self.assertIs(self.book == other, False)
            self.assertIs(other == self.book, False)
            self.assertIs(self.book != other, True)
        self.assertIs(Book() == (), False)

    def test_no_loop(self):
        for book in (self.book, Book()):
            for walk in (list, tuple, set, sorted, iter, lambda each: [x for x in each],
                         lambda each: dict(enumerate(each)), lambda each: max(*each, 1, 2)):
                with self.assertRaises(TypeError):
                    walk(book)
        with self.assertRaises(TypeError):
            for _ in self.book:
                self.fail("a book was walked")


class Without(unittest.TestCase):

    def setUp(self):
        self.book = Book.chain(0, 9, 1, "a", "b", "c", "d")

    def test_orders_left(self):
        orders = self.book.orders
        self.assertEqual(self.book.without().orders, orders)
        self.assertEqual(self.book.without(0).orders, orders[1:])
        self.assertEqual(self.book.without(1).orders, (orders[0], orders[2]))
        self.assertEqual(self.book.without(2, 0).orders, (orders[1],))
        self.assertEqual(self.book.without(1, 1).orders, (orders[0], orders[2]))
        self.assertEqual(self.book.without(0, 1, 2), Book())
        self.assertEqual(self.book.orders, orders)

    def test_unknown_orders(self):
        for index in NOT_NUMBERS + [-1, -3, 3, 10 ** 30]:
            with self.subTest(index=index):
                for indexes in ((index,), (0, index), (index, 0, 99), (2, index, -7)):
                    found = raised(self, UnknownOrder, self.book.without, *indexes).index
                    self.assertEqual((found, type(found)), (index, type(index)))

    def test_no_orders(self):
        self.assertEqual(Book().without(), Book())
        self.assertEqual(raised(self, UnknownOrder, Book().without, 0).index, 0)


class OrderAt(unittest.TestCase):

    def setUp(self):
        self.book = Book(("a", "b", 0, 9, 1), ("b", "a", 5, 12, 2), ("a", "c", 10, 10, 1),
                         ("a", "b", 12, LAST_DAY, 1))

    def test_first_and_last_days_are_included(self):
        days = {0: 0, 1: 0, 8: 0, 9: 0, 10: 2, 11: None, 12: 3, 13: 3, LAST_DAY: 3}
        self.assertEqual({day: self.book.order_at("a", day) for day in days}, days)
        days = {0: None, 4: None, 5: 1, 12: 1, 13: None, LAST_DAY: None}
        self.assertEqual({day: self.book.order_at("b", day) for day in days}, days)

    def test_targets_and_other_addresses(self):
        for word in ("c", "d", "ab", "abcdefgh"):
            self.assertIsNone(self.book.order_at(word, 7))
        self.assertIsNone(Book().order_at("a", 0))

    def test_wrong_addresses(self):
        for word in NOT_ADDRESSES:
            for day in (0, -1, None):
                with self.subTest(word=word, day=day):
                    raised(self, InvalidAddress, self.book.order_at, word, day)

    def test_wrong_days(self):
        for day in NOT_DAYS:
            for word in ("a", "z"):
                with self.subTest(day=day):
                    raised(self, InvalidDay, self.book.order_at, word, day)


class Unchanged(unittest.TestCase):

    def test_books_never_change(self):
        book = Book(*TWO)
        calls = [lambda: book + book, lambda: book >> -1, lambda: book >> None,
                 lambda: book[2], lambda: book.without(0, 5), lambda: book.order_at("a", -1),
                 lambda: list(book), lambda: book + Book(("c", "a", 0, 1, 1)),
                 lambda: book >> 5, lambda: book.without(1), lambda: Book.chain(0, 1, 1, "c", "d")]
        for call in calls:
            try:
                call()
            except (ValueError, TypeError):
                pass
            self.assertEqual([book.orders, book.addresses, len(book)], [TWO, ("a", "b"), 2])

    def test_signs_with_assignment_make_new_books(self):
        book = kept = Book(*TWO)
        book += Book(("c", "a", 0, 1, 1))
        book >>= 2
        self.assertEqual([kept.orders, len(book), book[2]], [TWO, 3, ("c", "a", 2, 3, 1)])

    def test_arguments_stay_as_they_are(self):
        wrong = ["a", "b", 0, [9], 1]
        orders = [GOOD, tuple(wrong), wrong]
        kept = copy.deepcopy(orders)
        self.assertEqual(raised(self, InvalidOrder, Book, *orders).index, 1)
        self.assertEqual(orders, kept)
        self.assertEqual(raised(self, UnknownOrder, Book(GOOD).without, wrong).index, wrong)
        self.assertEqual(wrong, kept[2])

    def test_a_list_of_arguments_is_not_kept(self):
        orders = list(TWO)
        book = Book(*orders)
        orders.clear()
        self.assertEqual(book.orders, TWO)

    def test_equal_calls_give_equal_values(self):
        book = Book(*TWO)
        for _ in range(3):
            self.assertEqual(book >> 3, Book(*TWO) >> 3)
            self.assertEqual(book.without(0), Book(*TWO).without(0))
            self.assertEqual(book.order_at("b", 5), 1)
            self.assertEqual(book.addresses, ("a", "b"))
            self.assertEqual(Book.chain(0, 5, 1, "a", "b"), Book(("a", "b", 0, 5, 1)))


if __name__ == "__main__":
    unittest.main()
