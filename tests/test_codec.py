"""Books as bytes: points 1 and 16."""

import random
import unittest

from mailforwards.books import Book
from mailforwards.codec import decode_book, encode_book, pack_bytes, unpack_bytes
from mailforwards.errors import DecodeError, InvalidCount, InvalidOrder
from samples import PERIOD, SHIFT, scattered_books, stretched_books
from wrong import LAST_DAY, NOT_NUMBERS, raised

TWO = Book(("a", "b", 0, 9, 1), ("b", "a", 5, 12, 2))
THIRTY = [first + second for first in "abcde" for second in "uvwxyz"]
# Numbers, and the bytes that the document's words make of them.
NUMBERS = [
    (0, [0]), (1, [1]), (126, [126]), (127, [127]), (128, [128, 1]), (129, [129, 1]),
    (255, [255, 1]), (256, [128, 2]), (16382, [254, 127]), (16383, [255, 127]),
    (16384, [128, 128, 1]), (16385, [129, 128, 1]), (2 ** 21 - 1, [255, 255, 127]),
    (2 ** 21, [128, 128, 128, 1]), (2 ** 56, [128] * 8 + [1]), (2 ** 56 - 1, [255] * 7 + [127]),
    (LAST_DAY, [128, 128, 144, 187, 186, 214, 173, 240, 13]),
]
# Numbers that are too great for a day, of nine and more bytes.
TOO_GREAT = [[129, 128, 144, 187, 186, 214, 173, 240, 13], [255] * 8 + [127], [128] * 9 + [1],
             [128] * 8 + [14], [129] * 30 + [1], [128] * 400 + [1], [255] * 400 + [127]]


def checksum(values):
    """The checksum, by the document's words."""
    found = 9
    for value in values:
        found = (2 * found + value) % 241
    return found


def summed(*values):
    """Values with the checksum behind them."""
    return [*values, checksum(values)]


def word(text):
    """The values of an address."""
    return [len(text)] + [ord(letter) - ord("a") for letter in text]


def number(value):
    """The values of a number, from its binary figures."""
    figures = bin(value)[2:]
    figures = "0" * (-len(figures) % 7) + figures
    groups = [int(figures[at:at + 7], 2) for at in range(0, len(figures), 7)][::-1]
    return [group + 128 for group in groups[:-1]] + groups[-1:]


def order(source, target, first, last, way):
    """The values of an order."""
    return word(source) + word(target) + number(first) + number(last - first) + [way]


def slow_decode(values):
    """The orders of values, or the offset that is wrong: reads again from the beginning."""
    at = 2
    if not values or values[0] != 77:
        return 0
    if len(values) < 2 or values[1] > 30:
        return 1
    orders = []
    for _ in range(values[1]):
        begin = at
        words = []
        for _ in range(2):
            start = at
            if at == len(values) or values[at] not in range(1, 9):
                return at
            letters = values[at + 1:at + 1 + values[at]]
            wrong = [place for place, letter in enumerate(letters) if letter > 25]
            if wrong:
                return at + 1 + wrong[0]
            if len(letters) < values[at]:
                return len(values)
            words.append("".join("abcdefghijklmnopqrstuvwxyz"[letter] for letter in letters))
            at += 1 + len(letters)
        if words[0] == words[1]:
            return start
        days = [0]
        for _ in range(2):
            lasts = [place for place in range(at, len(values)) if values[place] < 128]
            if not lasts:
                return len(values)
            if lasts[0] > at and values[lasts[0]] == 0:
                return lasts[0]
            groups = values[at:lasts[0] + 1]
            days.append(days[-1] + sum((group % 128) << (7 * place)
                                       for place, group in enumerate(groups)))
            if days[-1] > 10 ** 18:
                return at
            at = lasts[0] + 1
        if at == len(values) or values[at] not in range(1, 31):
            return at
        orders.append((*words, *days[1:], values[at]))
        at += 1
        try:
            Book(*orders)
        except InvalidOrder:
            return begin
    if at == len(values) or values[at] != checksum(values[:at]):
        return at
    return orders if at + 1 == len(values) else at + 1


class Kinds(unittest.TestCase):

    def test_kinds(self):
        self.assertIs(type(pack_bytes([1])), bytes)
        self.assertIs(type(unpack_bytes(b"a")), list)
        self.assertIs(type(encode_book(TWO)), bytes)
        self.assertIs(type(decode_book(encode_book(TWO))), Book)


class Packing(unittest.TestCase):

    def test_ordinary_values(self):
        self.assertEqual(pack_bytes([1, 255]), b"\x01\xff")
        self.assertEqual(unpack_bytes(b"\x01\xff"), [1, 255])
        self.assertEqual([pack_bytes([]), unpack_bytes(b"")], [b"", []])

    def test_all_values_lead_back(self):
        values = list(range(256)) + [0, 255, 0]
        self.assertEqual(unpack_bytes(pack_bytes(values)), values)
        self.assertEqual(values, list(range(256)) + [0, 255, 0])

    def test_what_is_no_list(self):
        for value in (None, True, False, 0, 5, -1, 10 ** 30, "", "a", "12", (), (1, 255), (0,),
                      b"", b"a", {}, {1: 2}, range(3)):
            with self.subTest(value=value):
                raised(self, InvalidCount, pack_bytes, value)

    def test_lists_of_other_values(self):
        for value in NOT_NUMBERS + [-1, 256, 257, 10 ** 30, -(10 ** 30), [0], b"a", 1.0]:
            for values in ([value], [0, value], [value, 255], [0, value, 300]):
                with self.subTest(values=values):
                    raised(self, InvalidCount, pack_bytes, values)

    def test_arguments_are_not_changed_or_kept(self):
        values = [1, 2, 3]
        data = pack_bytes(values)
        self.assertEqual(values, [1, 2, 3])
        values.append(4)
        self.assertEqual(data, b"\x01\x02\x03")
        found = unpack_bytes(data)
        found.clear()
        self.assertEqual(unpack_bytes(data), [1, 2, 3])
        wrong = [1, 256, [2]]
        raised(self, InvalidCount, pack_bytes, wrong)
        self.assertEqual(wrong, [1, 256, [2]])


class Encoding(unittest.TestCase):

    def check(self, book, values):
        self.assertEqual(list(encode_book(book)), values)
        self.assertEqual(decode_book(bytes(values)), book)

    def test_a_book_without_orders(self):
        self.check(Book(), [77, 0, 190])

    def test_ordinary_books(self):
        self.check(Book(("a", "b", 0, 9, 1)), [77, 1, 1, 0, 1, 1, 0, 9, 1, 214])
        self.check(TWO, summed(77, 2, 1, 0, 1, 1, 0, 9, 1, 1, 1, 1, 0, 5, 7, 2))
        self.check(Book(("abcdefgh", "az", 5, 5, 30)),
                   summed(77, 1, 8, 0, 1, 2, 3, 4, 5, 6, 7, 2, 0, 25, 5, 0, 30))

    def test_numbers_of_several_bytes(self):
        for value, values in NUMBERS:
            self.assertEqual(number(value), values)
            self.check(Book(("a", "b", value, value, 1)),
                       summed(77, 1, 1, 0, 1, 1, *values, 0, 1))
            self.check(Book(("a", "b", 0, value, 1)), summed(77, 1, 1, 0, 1, 1, 0, *values, 1))
            if value < LAST_DAY:
                self.check(Book(("a", "b", 1, value + 1, 1)),
                           summed(77, 1, 1, 0, 1, 1, 1, *values, 1))
                self.check(Book(("a", "b", value, LAST_DAY, 1)),
                           summed(77, 1, 1, 0, 1, 1, *values, *number(LAST_DAY - value), 1))

    def test_all_letters_ways_and_lengths(self):
        for letter in "abcdefghijklmnopqrstuvwxyz":
            for way in range(1, 31):
                found = (letter, "qq", 3, 4, way)
                self.check(Book(found), summed(77, 1, *order(*found)))
        for one in range(1, 9):
            for other in range(1, 9):
                found = ("y" * one, "z" * other, 0, 0, 1)
                self.check(Book(found), summed(77, 1, *order(*found)))

    def test_thirty_orders(self):
        book = Book.chain(7, LAST_DAY, 30, *THIRTY, "zz")
        values = sum([order(*found) for found in book.orders], [])
        self.check(book, summed(77, 30, *values))

    def test_bytes_of_books_lead_back(self):
        books = list(scattered_books(60)) + [book for books in stretched_books(20, PERIOD + SHIFT)
                                             for book in books]
        books += [Book(*[("a", name, 9 * at, 9 * at + 8, at + 1) for at, name in enumerate(THIRTY)]),
                  Book(("zzzzzzzz", "abcdefgh", LAST_DAY, LAST_DAY, 30))]
        for book in books:
            values = sum([order(*found) for found in book.orders], [])
            self.check(book, summed(77, len(book), *values))
            self.assertEqual(decode_book(encode_book(book)).orders, book.orders)
        self.assertGreater(max(len(book) for book in books), 29)


class Decoding(unittest.TestCase):

    # Its bytes: 77 2 | 2 0 1 1 2 128 1 9 1 | 1 2 2 0 1 5 255 127 30 | checksum
    book = Book(("ab", "c", 128, 137, 1), ("c", "ab", 5, 16388, 30))
    values = list(encode_book(book))

    def refused(self, values, offset):
        """The values are refused at an offset."""
        with self.subTest(values=values):
            found = raised(self, DecodeError, decode_book, bytes(values)).offset
            self.assertEqual((found, type(found)), (offset, int))
            self.assertEqual(slow_decode(list(values)), offset)

    def at_each_end(self, values, offset):
        """The same, also if data ends there, or other bytes stand behind it."""
        for rest in ([], [0], [255], [1] * 9, [128] * 5):
            self.refused(values + rest, offset)

    def changed(self, at, value, rest=True):
        """The good values up to a place, another value there, and the good ones behind it."""
        return self.values[:at] + [value] + (self.values[at + 1:] if rest else [])

    def test_the_good_values(self):
        self.assertEqual(self.values, summed(77, 2, 2, 0, 1, 1, 2, 128, 1, 9, 1,
                                             1, 2, 2, 0, 1, 5, 255, 127, 30))
        self.assertEqual(decode_book(bytes(self.values)), self.book)

    def test_data_that_ends_behind_each_byte(self):
        for many in range(len(self.values)):
            self.refused(self.values[:many], many)

    def test_a_byte_behind_the_checksum(self):
        for value in (0, 1, 77, 255, self.values[-1]):
            self.refused(self.values + [value], len(self.values))
            self.refused(self.values + [value, value], len(self.values))
        self.refused([77, 0, 190, 190], 3)

    def test_another_first_byte(self):
        for value in range(256):
            if value != 77:
                self.refused(self.changed(0, value), 0)
                self.refused([value], 0)
        self.refused([], 0)

    def test_the_number_of_orders(self):
        for value in range(31, 256):
            self.at_each_end([77, value], 1)
        self.refused([77, 30], 2)
        self.refused(self.changed(1, 1), 11)
        self.refused(self.changed(1, 3), 20)
        self.refused(self.changed(1, 0), 2)

    def test_numbers_of_letters(self):
        for at in (2, 5, 11, 13):
            for value in [0] + list(range(9, 256)):
                self.at_each_end(self.changed(at, value, rest=False), at)

    def test_letters(self):
        for at in (3, 4, 6, 12, 14, 15):
            for value in range(26, 256):
                self.at_each_end(self.changed(at, value, rest=False), at)
        self.refused(self.changed(3, 25), len(self.values) - 1)

    def test_a_last_byte_that_is_0(self):
        for at in (7, 9, 16, 17):
            for more in range(1, 12):
                for byte in (128, 129, 255):
                    values = self.values[:at] + more * [byte] + [0]
                    self.at_each_end(values, at + more)
        self.refused([77, 1, 1, 0, 1, 1, 128, 128, 0, 0, 1, 1], 8)

    def test_a_number_that_is_0_is_one_byte(self):
        self.assertEqual(decode_book(bytes(summed(77, 1, 1, 0, 1, 1, 0, 0, 1)))[0],
                         ("a", "b", 0, 0, 1))
        self.refused(summed(77, 1, 1, 0, 1, 1, 128, 0, 0, 1), 7)
        self.refused(summed(77, 1, 1, 0, 1, 1, 0, 128, 0, 1), 8)

    def test_a_first_day_beyond_the_last_one(self):
        for number_values in TOO_GREAT:
            self.at_each_end(self.values[:7] + number_values, 7)
            self.at_each_end(self.values[:16] + number_values, 16)
            # Only the last byte shows that a number is too great.
            self.refused(self.values[:7] + number_values[:-1], 7 + len(number_values) - 1)
            self.refused(self.values[:7] + number_values[:-1] + [0], 7 + len(number_values) - 1)

    def test_a_last_day_beyond_the_last_one(self):
        for number_values in TOO_GREAT:
            self.at_each_end(self.values[:9] + number_values, 9)
            self.refused(self.values[:9] + number_values[:-1], 9 + len(number_values) - 1)
        for first, days in ((1, LAST_DAY), (LAST_DAY, 1), (LAST_DAY, 128), (LAST_DAY, LAST_DAY),
                            (LAST_DAY // 2, LAST_DAY // 2 + 1)):
            start = [77, 1, 1, 0, 1, 1] + number(first)
            self.at_each_end(start + number(days), len(start))
            self.assertEqual(decode_book(bytes(summed(*start, *number(LAST_DAY - first), 1)))[0],
                             ("a", "b", first, LAST_DAY, 1))

    def test_ways(self):
        for at in (10, 19):
            for value in [0] + list(range(31, 256)):
                self.at_each_end(self.changed(at, value, rest=False), at)

    def test_a_wrong_checksum(self):
        at = len(self.values) - 1
        for value in range(256):
            if value != self.values[at]:
                self.at_each_end(self.changed(at, value), at)
        for changed in ([77, 0, 9], [77, 0, 0], [77, 0, 189], [77, 0, 191]):
            self.refused(changed, 2)

    def test_another_letter_day_or_way_is_told_by_the_checksum(self):
        for at in (3, 4, 6, 7, 9, 10, 12, 14, 15, 16, 17, 18, 19):
            self.refused(self.changed(at, self.values[at] ^ 2), len(self.values) - 1)

    def test_a_target_that_is_the_source(self):
        for name in ("a", "zz", "abcdefgh"):
            start = [77, 1] + word(name)
            self.at_each_end(start + word(name), len(start))
            # It is judged when it has been read.
            for many in range(1, len(word(name))):
                self.refused(start + word(name)[:many], len(start) + many)
                self.refused(start + word(name)[:many] + [26], len(start) + many)
            longer = start + word(name[:7] + "b")
            self.refused(longer, len(longer))
        second = self.values[:11]
        self.at_each_end(second + word("c") + word("c"), 13)

    def test_an_order_that_shares_a_day_with_an_earlier_one(self):
        first = [77, 2] + order("a", "b", 5, 9, 1)
        for days in ((0, 5), (5, 5), (6, 8), (9, 9), (9, LAST_DAY), (0, LAST_DAY)):
            second = order("a", "c", *days, 1)
            self.at_each_end(first + second, len(first))
            self.refused(summed(*first, *second), len(first))
            # It is judged when it has been read.
            for many in range(len(second)):
                self.refused(first + second[:many], len(first) + many)
            for way in (0, 31, 255):
                self.refused(first + second[:-1] + [way], len(first) + len(second) - 1)
        for days in ((0, 4), (10, 10), (10, LAST_DAY)):
            second = order("a", "c", *days, 1)
            self.assertEqual(len(decode_book(bytes(summed(*first, *second)))), 2)

    def test_a_day_shared_with_any_earlier_order(self):
        values = [77, 4] + order("a", "b", 5, 9, 1) + order("b", "a", 0, 99, 1)
        values += order("a", "d", 20, 29, 1)
        for days in ((9, 10), (15, 20), (0, 99)):
            self.at_each_end(values + order("a", "b", *days, 2), len(values))
        self.assertEqual(len(decode_book(bytes(summed(*values, *order("a", "b", 10, 19, 2))))), 4)

    def test_the_first_of_several_invalid_bytes_is_told(self):
        wrong = {0: 78, 1: 31, 2: 0, 3: 26, 4: 99, 5: 9, 6: 200, 8: 0, 10: 31, 11: 255, 12: 26,
                 13: 0, 14: 27, 15: 28, 18: 0, 19: 0, 20: self.values[20] ^ 1}
        for at in wrong:
            values = list(self.values)
            for other, value in wrong.items():
                if other >= at:
                    values[other] = value
            self.refused(values, at)
            self.refused(values + [0], at)

    def test_numbers_are_judged_ahead_of_the_bytes_behind_them(self):
        for end in ([77, 31], [77, 1, 0], [77, 1, 9], [77, 1, 1, 26], [77, 1, 1, 0, 9]):
            self.refused(end, len(end) - 1)
        self.refused([77, 1, 1, 0, 1, 0], 4)
        self.refused([77, 1, 1, 0, 1, 1] + TOO_GREAT[0], 6)
        self.refused([77, 1, 1, 0, 1, 1, 1] + number(LAST_DAY), 7)
        self.refused([77, 1, 1, 0, 1, 1, 0, 0, 31], 8)

    def test_what_is_not_bytes(self):
        for value in (None, True, False, 0, 77, "", "M", (), (77, 0, 190), [], [77, 0, 190]):
            with self.subTest(value=value):
                raised(self, DecodeError, decode_book, value)

    def test_changed_bytes_against_slow_decoding(self):
        chance = random.Random(16)
        offsets, right = [], 0
        for book in scattered_books(80):
            values = list(encode_book(Book(*book.orders[:4])))
            for _ in range(40):
                changed = list(values[:-1])
                for _ in range(chance.choice((0, 1, 1, 2))):
                    at = chance.randrange(1, len(changed))
                    value = chance.choice((0, 1, 1, 2, 3, 9, 25, 30, 128, 129, 255, changed[at] ^ 1))
                    changed[at:at + chance.choice((0, 1, 1, 1))] = [value][:chance.randrange(5)]
                if chance.random() < 0.8:
                    changed = summed(*changed)
                found = slow_decode(changed)
                if isinstance(found, int):
                    self.refused(changed, found)
                    offsets.append(found)
                else:
                    self.assertEqual(decode_book(bytes(changed)), Book(*found))
                    self.assertEqual(list(encode_book(Book(*found))), changed)
                    right += 1
        self.assertGreater(right, 300)
        self.assertGreater(len(set(offsets)), 20)

    def test_nothing_is_changed_or_kept(self):
        data = bytes(self.values)
        for _ in range(3):
            self.assertEqual(decode_book(data), self.book)
            self.assertEqual(encode_book(self.book), data)
            self.refused(self.values[:5], 5)
        self.assertEqual(self.book.orders, (("ab", "c", 128, 137, 1), ("c", "ab", 5, 16388, 30)))


if __name__ == "__main__":
    unittest.main()
