"""Books and routes as texts: points 1 and 15."""

import random
import re
import unittest

from mailforwards.books import Book
from mailforwards.errors import (InvalidAddress, InvalidDay, InvalidNumber, InvalidOrder,
                                 NotationError)
from mailforwards.letters import route
from mailforwards.notation import format_book, parse_book, travel_list
from samples import PERIOD, SHIFT, scattered_books, stretched_books
from wrong import ADDRESSES, LAST_DAY, NOT_ADDRESSES, NOT_DAYS, NOT_NUMBERS, outcome, raised

TWO = Book(("a", "b", 0, 9, 1), ("b", "a", 5, 12, 2))
TWO_TEXT = "order a b 0 9 1\norder b a 5 12 2"
FOREVER = Book.chain(0, LAST_DAY, 1, "a", "b", "a")
THIRTY = [first + second for first in "abcde" for second in "uvwxyz"]
GOOD = ["order", "a", "b", "0", "9", "1"]
NOT_ADDRESS_WORDS = ["", "abcdefghi", "A", "aB", "Ab", "a1", "1", "0", "a-b", "a.", "_", "a\t",
                     "a\r", "\ta", "`", "{", "\u00e4", "\u0430", "a\u2028", "a\x0b", "a\x1c"]
NOT_NUMBER_WORDS = [
    "", "00", "01", "09", "000", "0000000000000000001", "+1", "-1", "-0", "+0", "1_0", "1.0", "1.",
    "1e3", "0x1", "a", "1a", "a1", "one", "\u0661", "\u00b2", "1\u0661", "\u0967", "\uff11", "1,000",
    "1\t", "1\r", "\t1", "1\x0b", "1\u2028", "12345678901234567890", "10000000000000000000",
    "99999999999999999999", "123456789012345678901", "1" * 5000, "None", "True",
]


def with_word(at, word):
    """The words of a good row with another word at a place."""
    return GOOD[:at] + [word] + GOOD[at + 1:]


def slow_parse(text):
    """The orders of a text, or the row and the word that are wrong."""
    patterns = ["order", "[a-z]{1,8}", "[a-z]{1,8}"] + ["0|[1-9][0-9]{0,18}"] * 3
    orders = []
    for row, line in enumerate(text.split("\n") if text else []):
        words = line.split(" ")
        for at in range(max(6, len(words))):
            if at >= 6 or at >= len(words) or not re.fullmatch(patterns[at], words[at]):
                return row, at
        orders.append((words[1], words[2], *[int(word) for word in words[3:]]))
    return orders


class Kinds(unittest.TestCase):

    def test_kinds(self):
        self.assertIs(type(format_book(TWO)), str)
        self.assertIs(type(parse_book(TWO_TEXT)), Book)
        self.assertIs(type(travel_list(TWO, "a", 3, 5)), str)
        for value in parse_book(TWO_TEXT)[0][2:]:
            self.assertIs(type(value), int)


class Format(unittest.TestCase):

    def test_ordinary_books(self):
        self.assertEqual(format_book(TWO), TWO_TEXT)
        self.assertEqual(format_book(Book(("abcdefgh", "z", 7, 7, 30))), "order abcdefgh z 7 7 30")

    def test_a_book_without_orders(self):
        self.assertEqual(format_book(Book()), "")

    def test_great_days(self):
        self.assertEqual(format_book(Book(("a", "b", LAST_DAY, LAST_DAY, 1))),
                         "order a b 1000000000000000000 1000000000000000000 1")

    def test_thirty_orders(self):
        rows = format_book(Book.chain(1, 2, 3, *THIRTY, "zz")).split("\n")
        self.assertEqual(rows[:2], ["order au av 1 2 3", "order av aw 1 2 3"])
        self.assertEqual([len(rows), rows[29]], [30, "order ez zz 1 2 3"])

    def test_the_sequence_stays(self):
        book = Book(("b", "a", 9, 9, 1), ("a", "b", 5, 5, 1), ("b", "c", 0, 3, 1))
        self.assertEqual(format_book(book), "order b a 9 9 1\norder a b 5 5 1\norder b c 0 3 1")


class Parse(unittest.TestCase):

    def error(self, text):
        found = raised(self, NotationError, parse_book, text)
        self.assertEqual([type(found.row), type(found.word)], [int, int])
        return found.row, found.word

    def check_at(self, words, at):
        """A wrong word at a place is told, in the first row and in later ones."""
        line = " ".join(words)
        with self.subTest(line=line):
            self.assertEqual(self.error(line), (0, at))
            self.assertEqual(self.error(TWO_TEXT + "\n" + line), (2, at))
            self.assertEqual(self.error(line + "\n" + line + " 1 1"), (0, at))
            self.assertEqual(self.error("order c d 0 0 1\n" + line + "\norder c d 0 0 1"), (1, at))

    def test_ordinary_texts(self):
        self.assertEqual(parse_book(TWO_TEXT), TWO)
        self.assertEqual(parse_book("order a b 0 9 1").orders, (("a", "b", 0, 9, 1),))
        self.assertEqual(parse_book("order abcdefgh z 7 7 30").orders, (("abcdefgh", "z", 7, 7, 30),))

    def test_the_empty_text(self):
        self.assertEqual(parse_book(""), Book())

    def test_rows_with_too_few_words(self):
        for many in range(1, 6):
            self.check_at(GOOD[:many], many)

    def test_rows_with_too_many_words(self):
        for word in ("1", "x", "order", "", "0", "a b c"):
            self.check_at(GOOD + [word], 6)
        self.check_at(GOOD + GOOD, 6)

    def test_a_word_left_out_or_told_twice_at_each_place(self):
        # What may stand at the next place, too, is told where the row does not go on so.
        for at, expected in enumerate([0, 2, 2, 5, 5, 5]):
            self.check_at(GOOD[:at] + GOOD[at + 1:], expected)
        for at, expected in enumerate([3, 3, 3, 6, 6, 6]):
            self.check_at(GOOD[:at + 1] + GOOD[at:], expected)

    def test_wrong_first_words(self):
        for word in ("", "Order", "orders", "orde", "ORDER", "order.", "a", "1", "rule", "order\t",
                     "\torder", "\ufefforder", "\u043erder"):
            self.check_at(with_word(0, word), 0)

    def test_wrong_addresses(self):
        for at in (1, 2):
            for word in NOT_ADDRESS_WORDS:
                self.check_at(with_word(at, word), at)

    def test_wrong_numbers(self):
        for at in (3, 4, 5):
            for word in NOT_NUMBER_WORDS:
                self.check_at(with_word(at, word), at)
            for sign in [chr(code) for code in range(33, 127) if not 48 <= code <= 57]:
                self.check_at(with_word(at, "1" + sign), at)
                self.check_at(with_word(at, sign), at)

    def test_the_first_wrong_word_is_told(self):
        for at in range(6):
            for other in range(at + 1, 6):
                words = with_word(at, "?")
                words[other] = "?"
                self.check_at(words, at)
            self.check_at(with_word(at, "?") + ["more"], at)
            self.check_at(with_word(at, "?")[:max(at + 1, 3)], at)

    def test_two_spaces_side_by_side(self):
        for at in range(1, 6):
            self.check_at(GOOD[:at] + [""] + GOOD[at:], at)

    def test_spaces_at_the_ends_of_a_row(self):
        self.check_at([""] + GOOD, 0)
        self.check_at(GOOD + [""], 6)
        self.check_at(["", ""] + GOOD, 0)
        self.check_at(["", ""], 0)
        for many in range(1, 6):
            self.check_at(GOOD[:many] + [""], many)

    def test_empty_rows(self):
        self.assertEqual(self.error("\n"), (0, 0))
        self.assertEqual(self.error("\n" + TWO_TEXT), (0, 0))
        self.assertEqual(self.error(TWO_TEXT + "\n"), (2, 0))
        self.assertEqual(self.error(TWO_TEXT.replace("\n", "\n\n")), (1, 0))
        self.assertEqual(self.error(" "), (0, 0))

    def test_other_signs_do_not_part_words_or_rows(self):
        for sign in ("\t", "\r", "\x0b", "\x0c", "\x1c", "\x85", "\u00a0", "\u2028", "\u3000"):
            self.assertEqual(self.error(sign.join(GOOD)), (0, 0))
            self.assertEqual(self.error("order a" + sign + "b 0 9 1"), (0, 1))
            self.assertEqual(self.error(TWO_TEXT.replace("\n", sign)), (0, 5))
            self.assertEqual(self.error(TWO_TEXT.replace("\n", sign + "\n")), (0, 5))
            self.assertEqual(self.error(TWO_TEXT + sign), (1, 5))

    def test_the_first_wrong_row_is_told(self):
        self.assertEqual(self.error("order a b 0 9\norder A b 0 9 1"), (0, 5))
        self.assertEqual(self.error(TWO_TEXT + "\norder a b 0 9\nrule"), (2, 5))

    def test_what_is_no_text(self):
        for value in (None, True, False, 0, 7, (), ("order a b 0 9 1",), [], ["order a b 0 9 1"], b""):
            with self.subTest(value=value):
                raised(self, NotationError, parse_book, value)

    def test_numbers_of_up_to_19_figures(self):
        for word in ("0", "1", "9", "10", "100", "999999999999999999", "1000000000000000000"):
            self.assertEqual(parse_book(f"order a b 0 {word} 1")[0], ("a", "b", 0, int(word), 1))
            self.assertEqual(parse_book(f"order a b {word} 1000000000000000000 1")[0][2], int(word))
        for at in (3, 4, 5):
            for word in ("1000000000000000001", "1234567890123456789", "9999999999999999999"):
                self.assertEqual(self.invalid(" ".join(with_word(at, word))), 0)

    def invalid(self, text):
        return raised(self, InvalidOrder, parse_book, text).index

    def test_ways(self):
        for way in range(1, 31):
            self.assertEqual(parse_book(f"order a b 0 9 {way}")[0], ("a", "b", 0, 9, way))
        for way in (0, 31, 32, 100, LAST_DAY):
            self.assertEqual(self.invalid(f"order a b 0 9 {way}"), 0)
            self.assertEqual(self.invalid(TWO_TEXT + f"\norder c d 0 9 {way}"), 2)

    def test_orders_that_are_not_valid(self):
        self.assertEqual(self.invalid("order a b 9 8 1"), 0)
        self.assertEqual(self.invalid("order a a 0 9 1"), 0)
        self.assertEqual(self.invalid(TWO_TEXT + "\norder abc abc 0 9 1"), 2)

    def test_orders_that_share_a_day(self):
        self.assertEqual(self.invalid("order a b 0 9 1\norder a c 9 9 1"), 1)
        self.assertEqual(self.invalid("order a b 0 9 1\norder b c 9 9 1\norder a b 0 9 1"), 2)
        self.assertEqual(len(parse_book("order a b 0 9 1\norder a c 10 19 1")), 2)

    def test_thirty_orders_and_one_more(self):
        rows = [f"order {word} zz 0 9 1" for word in THIRTY]
        self.assertEqual(len(parse_book("\n".join(rows))), 30)
        self.assertEqual(self.invalid("\n".join(rows + ["order zz a 0 9 1"])), 30)
        self.assertEqual(self.invalid("\n".join(rows + ["order zz a 0 9 1"] * 5)), 30)

    def test_wrong_words_come_before_orders_that_are_not_valid(self):
        for line in ("order a a 0 9 1", "order a b 9 8 1", "order a b 0 9 31",
                     "order a b 0 9999999999999999999 1"):
            self.assertEqual(self.error(line + "\norder a b 0 9"), (1, 5))
            self.assertEqual(self.error(line + "\n"), (1, 0))
        rows = ["order a b 0 9 1"] * 40
        self.assertEqual(self.error("\n".join(rows + [""])), (40, 0))
        self.assertEqual(self.error("\n".join(rows + ["order a b 0 9 01"] + rows)), (40, 5))

    def test_texts_of_books_lead_back(self):
        books = list(scattered_books(60)) + [book for books in stretched_books(20, PERIOD + SHIFT)
                                             for book in books]
        books += [Book(), FOREVER, Book.chain(0, LAST_DAY, 30, *THIRTY, "zz"),
                  Book(*[("a", word, 9 * at, 9 * at + 8, at + 1) for at, word in enumerate(THIRTY)]),
                  Book(("abcdefgh", "zzzzzzzz", LAST_DAY, LAST_DAY, 30))]
        for book in books:
            text = format_book(book)
            self.assertEqual(parse_book(text), book)
            self.assertEqual(parse_book(text).orders, book.orders)
            self.assertEqual(format_book(parse_book(text)), text)
        self.assertGreater(max(len(book) for book in books), 29)

    def test_changed_texts_against_patterns(self):
        chance = random.Random(15)
        signs = " \n0129abzA+-\t"
        right = wrong = 0
        for book in scattered_books(60):
            text = format_book(Book(*book.orders[:3]))
            for _ in range(40):
                at = chance.randrange(len(text) + 1)
                kept = text[at + chance.choice((0, 1, 1)):]
                changed = text[:at] + chance.choice(["", *signs]) + kept
                found = slow_parse(changed)
                if isinstance(found, tuple):
                    self.assertEqual(self.error(changed), found)
                    wrong += 1
                else:
                    self.assertEqual(outcome(lambda: parse_book(changed)), outcome(lambda: Book(*found)))
                    right += 1
        self.assertGreater(right, 300)
        self.assertGreater(wrong, 300)


class Travel(unittest.TestCase):

    def test_ordinary_letters(self):
        self.assertEqual(travel_list(TWO, "a", 3, 5), "a....................................3\n"
                                                      "b....................................4")
        self.assertEqual(travel_list(TWO, "a", 4, 3), "a" + "." * 36 + "4\n" + "b" + "." * 36 + "5\n"
                                                      + "a" + "." * 36 + "7")

    def test_days_with_one_to_seven_groups_of_figures(self):
        for day, told in ((0, "0"), (9, "9"), (99, "99"), (999, "999"), (1000, "1,000"),
                          (12345, "12,345"), (999999, "999,999"), (1000000, "1,000,000"),
                          (1234567890, "1,234,567,890"), (10 ** 12, "1,000,000,000,000"),
                          (987654321012345, "987,654,321,012,345"),
                          (10 ** 18 - 1, "999,999,999,999,999,999"),
                          (10 ** 18, "1,000,000,000,000,000,000")):
            line = travel_list(Book(), "abc", day, 1)
            self.assertEqual(line, "abc....." + "." * (30 - len(told)) + told)
            self.assertEqual(len(line), 38)

    def test_a_day_beyond_the_last_one(self):
        book = Book(("a", "b", LAST_DAY, LAST_DAY, 30))
        self.assertEqual(travel_list(book, "a", LAST_DAY, 2).split("\n")[1],
                         "b" + "." * 12 + "1,000,000,000,000,000,030")

    def test_addresses_of_one_to_eight_letters(self):
        for word in ADDRESSES:
            line = travel_list(Book(), word, 5, 1)
            self.assertEqual(line, word + "." * (37 - len(word)) + "5")

    def test_counts_0_and_1000(self):
        self.assertEqual(travel_list(TWO, "a", 3, 0), "")
        self.assertEqual(travel_list(TWO, "a", 3, 1), "a" + "." * 36 + "3")
        self.assertEqual(len(travel_list(TWO, "a", 4, 1000).split("\n")), 5)
        lines = travel_list(FOREVER, "a", 0, 1000).split("\n")
        self.assertEqual([len(lines), lines[999]], [1000, "b" + "." * 34 + "999"])

    def test_as_route_yields_arrivals(self):
        for book in scattered_books(30):
            for count in (0, 1, 3, 1000):
                lines = travel_list(book, "a", 3, count).split("\n")
                found = [(line[:8].rstrip("."), int(line[8:].lstrip(".").replace(",", "")))
                         for line in lines if line]
                self.assertEqual(found, list(route(book, "a", 3, count)))

    def test_errors_of_route(self):
        for word in NOT_ADDRESSES:
            for day, count in ((0, 1), (-1, 1), (0, -1), (None, None)):
                raised(self, InvalidAddress, travel_list, TWO, word, day, count)
        for day in NOT_DAYS:
            for count in (1, -1, None):
                raised(self, InvalidDay, travel_list, TWO, "a", day, count)
        for count in NOT_NUMBERS + [-1, 1001, 1002, LAST_DAY, 10 ** 30]:
            raised(self, InvalidNumber, travel_list, TWO, "a", 0, count)


class Unchanged(unittest.TestCase):

    def test_the_book_stays_as_it_is(self):
        book = Book(*TWO.orders)
        calls = [lambda: format_book(book), lambda: travel_list(book, "a", 4, 3),
                 lambda: travel_list(book, "A", 4, 3), lambda: travel_list(book, "a", 4, 1001)]
        for call in calls:
            self.assertEqual(outcome(call), outcome(call))
            self.assertEqual(book.orders, TWO.orders)

    def test_equal_calls_give_equal_values(self):
        for _ in range(3):
            self.assertEqual(parse_book(TWO_TEXT), TWO)
            found = raised(self, NotationError, parse_book, "order a b 0 9 1 ")
            self.assertEqual((found.row, found.word), (0, 6))


if __name__ == "__main__":
    unittest.main()
