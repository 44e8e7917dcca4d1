"""Observers of unknown ways and addresses: points 1, 13 and 14."""

import random
import unittest

import slow
from mailforwards.books import Book
from mailforwards.errors import (Contradiction, InvalidAddress, InvalidDay, InvalidNumber, MailError,
                                 UnknownOrder)
from mailforwards.letters import end
from mailforwards.watching import LetterObserver, WayObserver
from samples import scattered_books
from wrong import ADDRESSES, LAST_DAY, NOT_ADDRESSES, NOT_DAYS, NOT_NUMBERS, raised

TWO = Book(("a", "b", 0, 9, 1), ("b", "a", 5, 12, 2))
FOREVER = Book.chain(0, LAST_DAY, 1, "a", "b", "a")
ALL_WAYS = list(range(1, 31))
NOT_LIMITS = NOT_NUMBERS + [-1, -2, 501, 502, LAST_DAY, 10 ** 30]
THIRTY = [first + second for first in "abcde" for second in "uvwxyz"]
LOOP = Book.chain(0, LAST_DAY, 30, *THIRTY, "au")


def way_state(observer):
    """All that can be read of an observer of ways."""
    return observer.ways, observer.observations


def letter_state(observer):
    """All that can be read of an observer of addresses."""
    return (observer.candidates, observer.observations, len(observer), observer.possible_ends(),
            [word for word in ADDRESSES + THIRTY if word in observer])


def with_way(book, index, way):
    """The book with another way of an order."""
    orders = list(book.orders)
    orders[index] = (*orders[index][:4], way)
    return Book(*orders)


class Kinds(unittest.TestCase):

    def test_kinds(self):
        ways = WayObserver(TWO, 0)
        self.assertIs(type(ways.see_end("a", 9, "b")), int)
        self.assertIs(type(ways.telling_day("a", 9)), int)
        letters = LetterObserver(TWO, 4)
        self.assertIs(type(letters.see_none("b", 5)), int)
        self.assertIs(type(letters.see_arrival("b", 4)), int)
        self.assertIs(type(letters.possible_ends()), dict)
        self.assertIs("b" in letters, True)
        for found in (ways.ways, ways.observations, letters.candidates, letters.observations):
            self.assertIs(type(found), list)
        for found in ways.observations + letters.observations:
            self.assertIs(type(found), tuple)
        self.assertIs(type(LetterObserver.from_log(TWO, 4)), LetterObserver)

    def test_properties_cannot_be_assigned(self):
        for observer, names in ((WayObserver(TWO, 0), ("ways", "observations")),
                                (LetterObserver(TWO, 0), ("candidates", "observations"))):
            for name in names:
                with self.assertRaises(AttributeError):
                    setattr(observer, name, [])


class Ways(unittest.TestCase):

    # The way of order 0 is 7 exactly if a letter of day 0 ends at c.
    seven = Book(("a", "b", 0, 0, 20), ("b", "c", 7, 7, 1))

    def test_all_ways_at_the_beginning(self):
        for index in (0, 1):
            self.assertEqual(way_state(WayObserver(TWO, index)), (ALL_WAYS, []))

    def test_unknown_orders(self):
        for index in NOT_NUMBERS + [-1, -2, 2, 3, 30, 10 ** 30]:
            with self.subTest(index=index):
                found = raised(self, UnknownOrder, WayObserver, TWO, index).index
                self.assertEqual((found, type(found)), (index, type(index)))
        self.assertEqual(raised(self, UnknownOrder, WayObserver, Book(), 0).index, 0)

    def test_ordinary_ends(self):
        observer = WayObserver(TWO, 0)
        self.assertEqual(observer.see_end("a", 9, "b"), 27)
        self.assertEqual(observer.ways, list(range(4, 31)))
        self.assertEqual(observer.see_end("a", 5, "a"), 4)
        self.assertEqual(observer.ways, [4, 5, 6, 7])
        self.assertEqual(observer.observations, [("a", 9, "b"), ("a", 5, "a")])

    def test_one_way_is_left(self):
        observer = WayObserver(self.seven, 0)
        self.assertEqual(observer.see_end("a", 0, "c"), 1)
        self.assertEqual(observer.ways, [7])
        raised(self, Contradiction, observer.see_end, "a", 0, "b")
        self.assertEqual(way_state(observer), ([7], [("a", 0, "c")]))

    def test_all_ways_but_one_are_left(self):
        observer = WayObserver(self.seven, 0)
        self.assertEqual(observer.see_end("a", 0, "b"), 29)
        self.assertEqual(observer.ways, [way for way in ALL_WAYS if way != 7])
        raised(self, Contradiction, observer.see_end, "a", 0, "c")
        self.assertEqual(observer.ways, [way for way in ALL_WAYS if way != 7])

    def test_what_tells_nothing_new_is_accepted(self):
        observer = WayObserver(self.seven, 0)
        seen = [("b", 7, "c"), ("b", 0, "b"), ("zzzzzzzz", LAST_DAY, "zzzzzzzz"), ("a", 1, "a"),
                ("b", 7, "c")]
        for observation in seen:
            self.assertEqual(observer.see_end(*observation), 30)
        self.assertEqual(way_state(observer), (ALL_WAYS, seen))
        for many in (1, 2, 3):
            self.assertEqual(observer.see_end("a", 0, "c"), 1)
            self.assertEqual(observer.observations, seen + many * [("a", 0, "c")])

    def test_no_way_would_be_left(self):
        observer = WayObserver(TWO, 0)
        for observation in (("c", 0, "a"), ("a", 0, "c"), ("a", 10, "b"), ("b", 0, "a"),
                            ("zzzzzzzz", LAST_DAY, "a"), ("a", 0, "zzzzzzzz")):
            before = way_state(observer)
            raised(self, Contradiction, observer.see_end, *observation)
            self.assertEqual(way_state(observer), before)
            observer.see_end("a", 9, "b")

    def test_each_single_way_of_an_order(self):
        # The order leads to an address at which each day has an end of its own.
        names = [letter + "x" for letter in "abcdefghijklmnopqrstuvwxyz"]
        book = Book(*[("b", names[way], way, way, 1) for way in range(1, 26)], ("a", "b", 0, 0, 1))
        for way in range(1, 31):
            observer = WayObserver(book, 25)
            self.assertEqual(observer.see_end("a", 0, names[way] if way < 26 else "b"),
                             1 if way < 26 else 5)
            self.assertIn(way, observer.ways)

    def test_the_way_in_the_given_book_does_not_matter(self):
        book = Book(*TWO.orders, ("a", "c", 10, 15, 9))
        for index in (0, 1, 2):
            observers = [WayObserver(with_way(book, index, way), index) for way in (1, 2, 17, 30)]
            found = []
            for observer in observers:
                self.assertEqual(observer.ways, ALL_WAYS)
                found.append((observer.telling_day("a", 20), observer.see_end("a", 9, "c"),
                              way_state(observer)))
            self.assertEqual(found, [found[0]] * 4)

    def test_ways_1_and_30_are_possible(self):
        for given in (1, 2, 29, 30):
            book = Book(("a", "b", 0, 0, given), ("b", "c", 1, 1, 1), ("b", "d", 30, 30, 1))
            self.assertEqual(WayObserver(book, 0).see_end("a", 0, "c"), 1)
            self.assertEqual(WayObserver(book, 0).see_end("a", 0, "d"), 1)
            self.assertEqual(WayObserver(book, 0).see_end("a", 0, "b"), 28)
            first, last = WayObserver(book, 0), WayObserver(book, 0)
            first.see_end("a", 0, "c")
            last.see_end("a", 0, "d")
            self.assertEqual([first.ways, last.ways], [[1], [30]])

    def test_an_unknown_way_in_a_loop_of_great_days(self):
        raised(self, Contradiction, WayObserver(FOREVER, 0).see_end, "a", 0, "a")
        for day in (1, 2, 3, 5, 6, 7):
            for goal in "ab":
                observer = WayObserver(FOREVER, 0)
                # The letter arrives at b on the last day of all, is sent on, and ends at a.
                possible = [way for way in ALL_WAYS
                            if ((LAST_DAY + 1 - day) % (way + 1) == 0) == (goal == "a")]
                self.assertEqual(observer.see_end("a", day, goal), len(possible))
                self.assertEqual(observer.ways, possible)

    def test_an_order_of_the_last_day_of_all(self):
        book = Book(("a", "b", LAST_DAY, LAST_DAY, 3), ("b", "c", LAST_DAY, LAST_DAY, 1))
        observer = WayObserver(book, 0)
        self.assertEqual(observer.see_end("a", LAST_DAY, "b"), 30)
        raised(self, Contradiction, observer.see_end, "a", LAST_DAY, "c")
        raised(self, InvalidDay, observer.see_end, "a", LAST_DAY + 1, "b")

    def test_a_book_of_thirty_orders(self):
        observer = WayObserver(LOOP, 29)
        self.assertEqual(observer.see_end("zz", 0, "zz"), 30)
        ends = {way: end(with_way(LOOP, 29, way), "au", 0)[0] for way in ALL_WAYS}
        possible = [way for way in ALL_WAYS if ends[way] == ends[30]]
        self.assertEqual(observer.see_end("au", 0, ends[30]), len(possible))
        self.assertEqual(observer.ways, possible)

    def test_against_each_way_one_by_one(self):
        chance = random.Random(13)
        seen = refused = 0
        for book in scattered_books(60):
            index = chance.randrange(len(book))
            observer = WayObserver(book, index)
            possible, accepted = ALL_WAYS, []
            for _ in range(12):
                address, day = chance.choice("abcd"), chance.randrange(60)
                ends = slow.ends_by_ways(book.orders, index, address, day)
                goal = chance.choice(list(ends.values()) + ["a", "b", "e"])
                left = [way for way in possible if ends[way] == goal]
                if left:
                    self.assertEqual(observer.see_end(address, day, goal), len(left))
                    possible = left
                    accepted.append((address, day, goal))
                else:
                    raised(self, Contradiction, observer.see_end, address, day, goal)
                    refused += 1
                seen += len(possible) < 30
                self.assertEqual(way_state(observer), (possible, accepted))
        self.assertGreater(seen, 100)
        self.assertGreater(refused, 50)


class TellingDay(unittest.TestCase):

    # Letters to a of day 40 are told apart, and no others.
    forty = Book(("a", "b", 40, 40, 1), ("b", "c", 45, 47, 1))

    def test_ordinary_days(self):
        observer = WayObserver(TWO, 0)
        self.assertEqual([observer.telling_day(word, 20) for word in "abc"], [0, 5, None])
        self.assertEqual([WayObserver(TWO, 1).telling_day(word, 20) for word in "abc"],
                         [None, None, None])

    def test_up_to_the_limit(self):
        observer = WayObserver(self.forty, 0)
        self.assertEqual([observer.telling_day("a", limit) for limit in (39, 40, 41, 500)],
                         [None, 40, 40, 40])
        self.assertIsNone(observer.telling_day("a", 0))

    def test_limits_0_and_500(self):
        book = Book(("a", "b", 500, 500, 1), ("b", "c", 505, 505, 1), ("d", "a", 0, 0, 1),
                    ("e", "d", 0, 0, 1), ("a", "c", 1, 1, 1), ("f", "e", 501, 501, 1))
        self.assertEqual(WayObserver(book, 0).telling_day("a", 500), 500)
        self.assertIsNone(WayObserver(book, 0).telling_day("a", 499))
        self.assertEqual(WayObserver(book, 2).telling_day("d", 0), 0)
        self.assertIsNone(WayObserver(book, 2).telling_day("e", 0))
        late = Book(("a", "b", 501, 501, 1), ("b", "c", 505, 505, 1))
        self.assertIsNone(WayObserver(late, 0).telling_day("a", 500))

    def test_wrong_limits(self):
        observer = WayObserver(TWO, 0)
        for limit in NOT_LIMITS:
            with self.subTest(limit=limit):
                raised(self, InvalidNumber, observer.telling_day, "a", limit)
                raised(self, InvalidNumber, observer.telling_day, "zzzzzzzz", limit)
                self.assertEqual(way_state(observer), (ALL_WAYS, []))

    def test_wrong_addresses(self):
        observer = WayObserver(TWO, 0)
        for word in NOT_ADDRESSES:
            for limit in (0, 500, -1, 501, None):
                with self.subTest(word=word, limit=limit):
                    raised(self, InvalidAddress, observer.telling_day, word, limit)

    def test_the_address_of_the_end_counts_and_not_the_day(self):
        book = Book(("a", "b", 0, 400, 1), ("b", "c", 0, LAST_DAY, 1))
        self.assertEqual(len({end(with_way(book, 0, way), "a", 0) for way in ALL_WAYS}), 30)
        self.assertIsNone(WayObserver(book, 0).telling_day("a", 500))

    def test_only_possible_ways_count(self):
        observer = WayObserver(self.forty, 0)
        observer.see_end("a", 40, "c")
        self.assertEqual(observer.ways, [5, 6, 7])
        self.assertIsNone(observer.telling_day("a", 500))
        other = WayObserver(self.forty, 0)
        other.see_end("a", 40, "b")
        self.assertEqual(len(other.ways), 27)
        self.assertIsNone(other.telling_day("a", 500))
        third = WayObserver(Book(*self.forty.orders, ("a", "b", 41, 41, 1)), 0)
        self.assertEqual(third.telling_day("a", 500), 40)

    def test_one_possible_way(self):
        observer = WayObserver(Ways.seven, 0)
        self.assertEqual(observer.telling_day("a", 500), 0)
        observer.see_end("a", 0, "c")
        self.assertIsNone(observer.telling_day("a", 500))

    def test_a_later_day_behind_an_observation(self):
        observer = WayObserver(TWO, 0)
        days = [observer.telling_day("a", 20)]
        while days[-1] is not None:
            observer.see_end("a", days[-1], end(TWO, "a", days[-1])[0])
            self.assertIn(1, observer.ways)
            days.append(observer.telling_day("a", 20))
        self.assertEqual(days, sorted(set(days[:-1])) + [None])
        self.assertGreater(len(days), 2)

    def test_asking_changes_nothing(self):
        observer = WayObserver(TWO, 0)
        observer.see_end("a", 9, "b")
        before = way_state(observer)
        for _ in range(3):
            self.assertEqual([observer.telling_day(word, 20) for word in "abc"], [0, 5, None])
            self.assertEqual(way_state(observer), before)

    def test_loops_of_great_days(self):
        # By each way, a letter to a of day 0 ends at b.
        self.assertIsNone(WayObserver(FOREVER, 0).telling_day("a", 0))
        self.assertEqual(WayObserver(FOREVER, 0).telling_day("a", 500), 1)
        self.assertEqual(WayObserver(FOREVER, 0).telling_day("b", 0), 0)
        self.assertIsNone(WayObserver(FOREVER, 0).telling_day("c", 500))
        beside = Book(*FOREVER.orders, ("x", "a", 0, LAST_DAY, 1), ("y", "z", 0, LAST_DAY, 1))
        self.assertIsNone(WayObserver(beside, 3).telling_day("a", 500))
        self.assertIsNone(WayObserver(beside, 3).telling_day("y", 500))
        self.assertEqual(WayObserver(beside, 2).telling_day("x", 500), 0)
        self.assertIsNone(WayObserver(beside, 2).telling_day("a", 500))

    def test_against_each_way_one_by_one(self):
        chance = random.Random(131)
        found = []
        for book in scattered_books(40):
            index = chance.randrange(len(book))
            observer = WayObserver(book, index)
            for _ in range(3):
                for word in "abcd":
                    limit = chance.choice((0, 5, 20, 60))
                    expected = slow.telling_day(book.orders, index, observer.ways, word, limit)
                    self.assertEqual(observer.telling_day(word, limit), expected)
                    found.append(expected)
                word, day = chance.choice("abcd"), chance.randrange(60)
                observer.see_end(word, day, end(book, word, day)[0])
        self.assertGreater(len(set(found)), 10)
        self.assertGreater(found.count(None), 20)


class WayChecks(unittest.TestCase):

    def setUp(self):
        self.observer = WayObserver(TWO, 0)
        self.observer.see_end("a", 9, "b")
        self.before = way_state(self.observer)

    def refused(self, error, *arguments):
        with self.subTest(arguments=arguments):
            raised(self, error, self.observer.see_end, *arguments)
            self.assertEqual(way_state(self.observer), self.before)

    def test_wrong_addresses_come_first(self):
        for word in NOT_ADDRESSES:
            for day, goal in ((0, "a"), (-1, "a"), (None, None), (0, "A")):
                self.refused(InvalidAddress, word, day, goal)

    def test_wrong_days_come_before_wrong_ends(self):
        for day in NOT_DAYS:
            for goal in ("a", "A", None, "zzzzzzzz"):
                self.refused(InvalidDay, "a", day, goal)

    def test_wrong_ends_come_before_contradictions(self):
        for word in NOT_ADDRESSES:
            for address, day in (("a", 0), ("c", LAST_DAY)):
                self.refused(InvalidAddress, address, day, word)
        self.refused(Contradiction, "c", LAST_DAY, "a")

    def test_lists_are_new_for_each_reading(self):
        for _ in range(2):
            for name in ("ways", "observations"):
                found = getattr(self.observer, name)
                self.assertIsNot(found, getattr(self.observer, name))
                found.reverse()
                found.append(99)
                del found[0]
                self.assertEqual(way_state(self.observer), self.before)
        self.assertEqual(self.observer.see_end("a", 0, "b"), len(self.observer.ways))

    def test_a_list_from_before_does_not_change(self):
        ways, observations = way_state(self.observer)
        self.observer.see_end("a", 5, "a")
        self.assertEqual((ways, observations), self.before)
        self.assertNotEqual(way_state(self.observer), self.before)

    def test_the_book_stays_as_it_is(self):
        book = Book(*TWO.orders)
        observer = WayObserver(book, 0)
        observer.see_end("a", 9, "b")
        raised(self, Contradiction, observer.see_end, "c", 9, "b")
        observer.telling_day("a", 20)
        self.assertEqual(book.orders, TWO.orders)

    def test_observers_of_one_book_are_apart(self):
        other = WayObserver(TWO, 0)
        other.see_end("a", 5, "a")
        self.assertEqual(way_state(self.observer), self.before)
        self.assertEqual(other.observations, [("a", 5, "a")])


class Letters(unittest.TestCase):

    def test_all_addresses_at_the_beginning(self):
        book = Book(("q", "b", 0, 9, 1), ("b", "aa", 5, 12, 2), ("zz", "a", 5, 12, 2))
        for day in (0, 4, LAST_DAY):
            observer = LetterObserver(book, day)
            self.assertEqual(observer.candidates, ["a", "aa", "b", "q", "zz"])
            self.assertEqual([len(observer), observer.observations], [5, []])

    def test_ordinary_arrivals(self):
        observer = LetterObserver(TWO, 4)
        self.assertEqual(observer.see_arrival("a", 7), 1)
        self.assertEqual(letter_state(observer),
                         (["a"], [("see_arrival", "a", 7)], 1, {"a": 1}, ["a"]))
        other = LetterObserver(TWO, 4)
        self.assertEqual(other.see_none("a", 7), 1)
        self.assertEqual(letter_state(other), (["b"], [("see_none", "a", 7)], 1, {"b": 1}, []))

    def test_the_first_arrival_counts(self):
        self.assertEqual(LetterObserver(TWO, 4).see_arrival("a", 4), 1)
        self.assertEqual(LetterObserver(TWO, 4).see_none("a", 4), 1)
        observer = LetterObserver(TWO, 4)
        observer.see_arrival("b", 4)
        self.assertEqual(observer.candidates, ["b"])

    def test_the_last_arrival_counts(self):
        observer = LetterObserver(TWO, 4)
        self.assertEqual(observer.see_arrival("a", 10), 1)
        self.assertEqual(observer.candidates, ["a"])

    def test_a_letter_that_rests_does_not_arrive_again(self):
        for day in (5, 11, 12, LAST_DAY):
            observer = LetterObserver(TWO, 4)
            raised(self, Contradiction, observer.see_arrival, "a", day)
            self.assertEqual(observer.see_none("a", day), 2)

    def test_an_arrival_before_the_day_of_the_letter(self):
        observer = LetterObserver(TWO, 4)
        raised(self, Contradiction, observer.see_arrival, "a", 3)
        self.assertEqual(observer.see_none("a", 3), 2)

    def test_another_address_on_the_day_of_an_arrival(self):
        observer = LetterObserver(TWO, 4)
        raised(self, Contradiction, observer.see_arrival, "a", 5)
        raised(self, Contradiction, observer.see_arrival, "zzzzzzzz", 5)
        self.assertEqual(observer.see_none("zzzzzzzz", 5), 2)

    def test_all_addresses_remain_possible(self):
        book = Book(("a", "c", 0, 9, 2), ("b", "c", 0, 9, 1), ("d", "b", 0, 9, 1),
                    ("c", "e", 3, 3, 1), ("e", "f", 5, 5, 1))
        seen = [("see_none", "a", 9), ("see_none", "zz", LAST_DAY), ("see_none", "f", 5)]
        observer = LetterObserver(book, 0)
        for name, address, day in seen:
            self.assertEqual(getattr(observer, name)(address, day), 6)
        self.assertEqual((observer.candidates, observer.observations), (list("abcdef"), seen))
        self.assertEqual(observer.see_arrival("c", 2), 2)
        self.assertEqual(observer.candidates, ["a", "d"])
        self.assertEqual(observer.see_arrival("c", 2), 2)
        self.assertEqual(len(observer.observations), 5)

    def test_no_address_would_remain_possible(self):
        observer = LetterObserver(TWO, 4)
        observer.see_none("b", 4)
        before = letter_state(observer)
        for call, address, day in ((observer.see_arrival, "b", 4), (observer.see_none, "a", 4),
                                   (observer.see_arrival, "c", 4), (observer.see_none, "a", 7),
                                   (observer.see_none, "a", 10), (observer.see_arrival, "a", 5)):
            raised(self, Contradiction, call, address, day)
            self.assertEqual(letter_state(observer), before)
        self.assertEqual(observer.see_arrival("a", 7), 1)

    def test_the_thousandth_arrival_and_the_next_one(self):
        for day in (0, 1, 10 ** 17):
            one, other = ("a", "b")
            observer = LetterObserver(FOREVER, day)
            raised(self, Contradiction, observer.see_arrival, one, day + 1000)
            raised(self, Contradiction, observer.see_arrival, other, day + 1000)
            raised(self, Contradiction, observer.see_arrival, one, day + 1001)
            self.assertEqual(observer.see_none(one, day + 1000), 2)
            self.assertEqual(observer.see_none(other, day + 1000), 2)
            self.assertEqual(observer.see_arrival(other, day + 999), 1)
            self.assertEqual(observer.candidates, [one])
            raised(self, Contradiction, observer.see_none, other, day + 999)

    def test_the_thousandth_arrival_of_a_loop_of_many_days(self):
        at = {word: place for place, word in enumerate(THIRTY)}
        for word in ("au", "az", "ez"):
            last = THIRTY[(at[word] + 999) % 30]
            observer = LetterObserver(LOOP, 0)
            self.assertEqual(len(observer), 30)
            self.assertEqual(observer.see_arrival(last, 999 * 30), 1)
            self.assertEqual(observer.candidates, [word])
            beyond = THIRTY[(at[word] + 1000) % 30]
            raised(self, Contradiction, observer.see_arrival, beyond, 1000 * 30)
            self.assertEqual(observer.see_none(beyond, 1000 * 30), 1)

    def test_days_of_arrival_beyond_the_last_day(self):
        book = Book(("a", "b", LAST_DAY, LAST_DAY, 2), ("c", "a", 0, LAST_DAY, 1))
        observer = LetterObserver(book, LAST_DAY - 1)
        self.assertEqual(observer.possible_ends(), {"a": 1, "b": 2})
        raised(self, InvalidDay, observer.see_arrival, "b", LAST_DAY + 2)
        raised(self, InvalidDay, observer.see_none, "b", LAST_DAY + 2)
        self.assertEqual(observer.see_arrival("a", LAST_DAY), 1)
        self.assertEqual(observer.candidates, ["c"])

    def test_signs(self):
        observer = LetterObserver(TWO, 4)
        for word in ("a", "b"):
            self.assertIs(word in observer, True)
        for value in NOT_ADDRESSES + ["c", "zzzzzzzz", 4, TWO]:
            self.assertIs(value in observer, False)
        observer.see_none("b", 4)
        self.assertEqual([len(observer), "a" in observer, "b" in observer], [1, True, False])

    def test_a_book_without_orders(self):
        observer = LetterObserver(Book(), 4)
        self.assertEqual(letter_state(observer), ([], [], 0, {}, []))
        for address in ("a", "zzzzzzzz"):
            for day in (0, 4, LAST_DAY):
                raised(self, Contradiction, observer.see_arrival, address, day)
                raised(self, Contradiction, observer.see_none, address, day)
        raised(self, InvalidAddress, observer.see_none, "A", 4)
        raised(self, InvalidDay, observer.see_none, "a", -1)
        self.assertEqual(letter_state(observer), ([], [], 0, {}, []))

    def test_wrong_days_of_the_letter(self):
        for day in NOT_DAYS:
            for book in (TWO, Book()):
                with self.subTest(day=day):
                    raised(self, InvalidDay, LetterObserver, book, day)
                    raised(self, InvalidDay, LetterObserver.from_log, book, day)
                    raised(self, InvalidDay, LetterObserver.from_log, book, day,
                           ("see_none", "A", -1))

    def test_against_each_address_one_by_one(self):
        chance = random.Random(14)
        narrowed = refused = 0
        for book in scattered_books(80):
            day = chance.randrange(40)
            observer = LetterObserver(book, day)
            possible, accepted = list(book.addresses), []
            seen = {word: slow.arrivals(book.orders, word, day) for word in possible}
            for _ in range(12):
                name = chance.choice(("see_arrival", "see_none"))
                pairs = sum(seen.values(), []) + [("a", day + 5), ("e", day)]
                pair = chance.choice(pairs)
                left = [word for word in possible if (pair in seen[word]) == (name == "see_arrival")]
                if left:
                    self.assertEqual(getattr(observer, name)(*pair), len(left))
                    narrowed += len(left) < len(possible)
                    possible = left
                    accepted.append((name, *pair))
                else:
                    raised(self, Contradiction, getattr(observer, name), *pair)
                    refused += 1
                ends = [seen[word][-1][0] for word in possible]
                expected = {word: ends.count(word) for word in sorted(set(ends))}
                self.assertEqual(letter_state(observer), (
                    possible, accepted, len(possible), expected,
                    [word for word in ADDRESSES + THIRTY if word in possible]))
                self.assertEqual(list(observer.possible_ends()), sorted(expected))
        self.assertGreater(narrowed, 80)
        self.assertGreater(refused, 80)

    def test_loops_of_great_days_against_each_address_one_by_one(self):
        chance = random.Random(141)
        for _ in range(10):
            orders = [(source, chance.choice([word for word in "abcde" if word != source]),
                       chance.randrange(5), LAST_DAY, chance.randint(1, 30)) for source in "abcd"]
            book = Book(*orders)
            seen = {word: slow.arrivals(orders, word, 3, 1000) for word in book.addresses}
            beyond = {word: slow.arrivals(orders, word, 3, 1010)[1000:] for word in book.addresses}
            pairs = [pair for word in seen for pair in seen[word][-3:] + seen[word][:5] + beyond[word]]
            for pair in pairs:
                left = [word for word in book.addresses if pair in seen[word]]
                observer = LetterObserver(book, 3)
                if left:
                    self.assertEqual(observer.see_arrival(*pair), len(left))
                    self.assertEqual(observer.candidates, left)
                else:
                    raised(self, Contradiction, observer.see_arrival, *pair)
                    self.assertEqual(observer.see_none(*pair), len(book.addresses))


class PossibleEnds(unittest.TestCase):

    def test_ordinary_books(self):
        self.assertEqual(LetterObserver(TWO, 4).possible_ends(), {"a": 1, "b": 1})
        self.assertEqual(LetterObserver(TWO, 0).possible_ends(), {"b": 2})
        self.assertEqual(LetterObserver(TWO, 13).possible_ends(), {"a": 1, "b": 1})

    def test_the_dict_ascends(self):
        book = Book(("a", "zz", 0, 9, 1), ("b", "m", 0, 9, 1), ("c", "ab", 0, 9, 1),
                    ("q", "b", 0, 9, 1), ("r", "zz", 0, 9, 1))
        for day, expected in ((0, [("ab", 2), ("m", 3), ("zz", 3)]),
                              (99, [(word, 1) for word in book.addresses])):
            self.assertEqual(list(LetterObserver(book, day).possible_ends().items()), expected)

    def test_of_possible_addresses_alone(self):
        observer = LetterObserver(TWO, 4)
        observer.see_arrival("b", 5)
        self.assertEqual(observer.possible_ends(), {"a": 1})

    def test_letters_that_are_sent_on_more_than_a_thousand_times(self):
        self.assertEqual(LetterObserver(FOREVER, 0).possible_ends(), {"a": 1, "b": 1})
        for last in (999, 1000, 1001, 1002, 2500):
            book = Book(("a", "b", 0, last, 1), ("b", "a", 0, last, 1), ("c", "a", 0, 0, 2))
            observer = LetterObserver(book, 0)
            ends = [end(book, word, 0)[0] for word in "abc"]
            self.assertEqual(observer.possible_ends(),
                             {word: ends.count(word) for word in sorted(set(ends))})
            self.assertEqual(ends, [slow.arrivals(book.orders, word, 0)[-1][0] for word in "abc"])

    def test_a_loop_of_thirty_orders(self):
        found = LetterObserver(LOOP, 0).possible_ends()
        self.assertEqual(found, {word: 1 for word in sorted(THIRTY)})
        self.assertEqual(list(found), sorted(THIRTY))

    def test_sixty_addresses(self):
        pairs = list(zip(THIRTY, [word + "x" for word in THIRTY]))
        book = Book(*[(one, other, 0, 9, 1) for one, other in pairs])
        observer = LetterObserver(book, 5)
        self.assertEqual(len(observer), 60)
        self.assertEqual(observer.possible_ends(), {other: 2 for _, other in sorted(pairs)})
        self.assertEqual(observer.see_arrival("aux", 6), 1)


class FromLog(unittest.TestCase):

    def test_as_one_by_one(self):
        log = [("see_none", "b", 4), ("see_arrival", "a", 7), ("see_none", "zz", 9)]
        for many in range(4):
            found = LetterObserver.from_log(TWO, 4, *log[:many])
            other = LetterObserver(TWO, 4)
            for name, address, day in log[:many]:
                getattr(other, name)(address, day)
            self.assertEqual(letter_state(found), letter_state(other))
            self.assertEqual(found.observations, log[:many])

    def test_from_the_observations_of_another_observer(self):
        chance = random.Random(142)
        for book in scattered_books(20):
            observer = LetterObserver(book, 3)
            for _ in range(8):
                call = chance.choice((observer.see_arrival, observer.see_none))
                try:
                    call(chance.choice("abcd"), chance.randrange(20))
                except MailError:
                    pass
            found = LetterObserver.from_log(book, 3, *observer.observations)
            self.assertEqual(letter_state(found), letter_state(observer))

    def test_by_name(self):
        found = LetterObserver.from_log(book=TWO, day=4)
        self.assertEqual(found.candidates, ["a", "b"])

    def test_errors_of_observations(self):
        good = ("see_none", "b", 4)
        for name in ("see_arrival", "see_none"):
            for word in NOT_ADDRESSES:
                for day in (4, -1):
                    raised(self, InvalidAddress, LetterObserver.from_log, TWO, 4, good,
                           (name, word, day))
            for day in NOT_DAYS:
                raised(self, InvalidDay, LetterObserver.from_log, TWO, 4, good, (name, "a", day))
        raised(self, Contradiction, LetterObserver.from_log, TWO, 4, good, ("see_none", "a", 4))
        raised(self, Contradiction, LetterObserver.from_log, TWO, 4, good, ("see_arrival", "b", 4))
        raised(self, Contradiction, LetterObserver.from_log, Book(), 4, good)

    def test_the_first_error_is_raised(self):
        wrong = [("see_none", "A", 4), ("see_none", "a", -1), ("see_arrival", "c", 4)]
        errors = [InvalidAddress, InvalidDay, Contradiction]
        for at in range(3):
            log = wrong[at:] + wrong[:at]
            raised(self, errors[at], LetterObserver.from_log, TWO, 4, *log)

    def test_what_has_another_name_is_not_an_observation(self):
        for name in ("see_end", "candidates", "", "_see"):
            with self.assertRaises(TypeError):
                LetterObserver.from_log(TWO, 4, (name, "b", 4))


class LetterChecks(unittest.TestCase):

    def setUp(self):
        self.observer = LetterObserver(TWO, 4)
        self.observer.see_none("zz", 4)
        self.before = letter_state(self.observer)

    def test_wrong_addresses_come_before_wrong_days(self):
        for word in NOT_ADDRESSES:
            for day in (4, -1, None, LAST_DAY + 1):
                for call in (self.observer.see_arrival, self.observer.see_none):
                    with self.subTest(word=word, day=day):
                        raised(self, InvalidAddress, call, word, day)
                        self.assertEqual(letter_state(self.observer), self.before)

    def test_wrong_days_come_before_contradictions(self):
        for day in NOT_DAYS:
            for word in ("a", "zzzzzzzz"):
                for call in (self.observer.see_arrival, self.observer.see_none):
                    with self.subTest(word=word, day=day):
                        raised(self, InvalidDay, call, word, day)
                        self.assertEqual(letter_state(self.observer), self.before)

    def test_lists_and_dicts_are_new_for_each_reading(self):
        for _ in range(2):
            for read in (lambda: self.observer.candidates, lambda: self.observer.observations):
                found = read()
                self.assertIsNot(found, read())
                found.reverse()
                found.append("c")
                del found[0]
                self.assertEqual(letter_state(self.observer), self.before)
            found = self.observer.possible_ends()
            found["a"] = 99
            found.pop("b")
            self.assertEqual(letter_state(self.observer), self.before)
        self.assertEqual(self.observer.see_arrival("a", 7), 1)

    def test_a_list_from_before_does_not_change(self):
        candidates, observations = self.observer.candidates, self.observer.observations
        self.observer.see_arrival("a", 7)
        self.assertEqual([candidates, observations], list(self.before[:2]))

    def test_the_book_and_a_log_stay_as_they_are(self):
        book, log = Book(*TWO.orders), [("see_none", "b", 4)]
        observer = LetterObserver.from_log(book, 4, *log)
        log.clear()
        raised(self, Contradiction, observer.see_arrival, "b", 4)
        self.assertEqual(book.orders, TWO.orders)
        self.assertEqual(observer.observations, [("see_none", "b", 4)])

    def test_observers_of_one_book_are_apart(self):
        other = LetterObserver(TWO, 4)
        other.see_arrival("a", 7)
        self.assertEqual(letter_state(self.observer), self.before)

    def test_equal_calls_give_equal_values(self):
        for _ in range(3):
            self.assertEqual(self.observer.see_none("zz", 4), 2)
            self.assertEqual(self.observer.possible_ends(), {"a": 1, "b": 1})


if __name__ == "__main__":
    unittest.main()
