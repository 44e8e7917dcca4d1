"""Books as bytes."""

from mailforwards.books import MAX_WAY, Book, share_day
from mailforwards.checks import LETTERS, MAX_DAY, MAX_LETTERS, is_number
from mailforwards.errors import DecodeError, InvalidCount

MAX_BYTE = 255
FIRST_BYTE = 77
FIRST_CHECKSUM = 9
# A number is encoded in groups of seven bits; another byte follows one from 128 on.
MORE = 128
# Each day is less than this, so a group that counts so many or more makes a number too great.
BEYOND_ALL_DAYS = 128 ** 9


def pack_bytes(values):
    """The bytes with the values of a list of integers from 0 to 255."""
    if not isinstance(values, list) or not all([is_number(value, 0, MAX_BYTE) for value in values]):
        raise InvalidCount("bytes are made of a list of integers from 0 to 255")
    return bytes(values)


def unpack_bytes(data):
    """The list of the values of bytes."""
    return list(data)


def encode_book(book):
    """The bytes of a book."""
    values = [FIRST_BYTE, len(book)]
    for source, target, first, last, way in book.orders:
        values.extend(_address_values(source))
        values.extend(_address_values(target))
        values.extend(_number_values(first))
        values.extend(_number_values(last - first))
        values.append(way)
    values.append(_checksum(values))
    return pack_bytes(values)


def decode_book(data):
    """The book of bytes."""
    # What is not bytes is wrong from its beginning.
    if not isinstance(data, bytes):
        raise DecodeError(0)
    reader = Reader(data)
    reader.read_byte(FIRST_BYTE, FIRST_BYTE)
    orders = []
    for _ in range(reader.read_byte(0, Book.MAX_ORDERS)):
        start = reader.at
        order = _read_order(reader)
        if any([share_day(order, earlier) for earlier in orders]):
            raise DecodeError(start)
        orders.append(order)
    checksum = _checksum(unpack_bytes(data[:reader.at]))
    reader.read_byte(checksum, checksum)
    if reader.at < len(data):
        raise DecodeError(reader.at)
    return Book(*orders)


class Reader:
    """Bytes that are read from left to right."""

    def __init__(self, data):
        self._data = data
        self.at = 0

    def read_byte(self, low, high):
        """Read a byte that must be from low to high."""
        if self.at >= len(self._data) or not low <= self._data[self.at] <= high:
            raise DecodeError(self.at)
        self.at = self.at + 1
        return self._data[self.at - 1]

    def read_address(self):
        """Read the number of letters of an address, and these."""
        address = ""
        for _ in range(self.read_byte(1, MAX_LETTERS)):
            address = address + LETTERS[self.read_byte(0, len(LETTERS) - 1)]
        return address

    def read_number(self, high):
        """Read a number that must not be greater than high."""
        start = self.at
        byte = self.read_byte(0, MAX_BYTE)
        number = byte & (MORE - 1)
        scale = MORE
        while byte >= MORE:
            # A 0 would be the last one of several bytes.
            byte = self.read_byte(1, MAX_BYTE)
            number = number + (byte & (MORE - 1)) * scale
            scale = min(scale * MORE, BEYOND_ALL_DAYS)
        if number > high:
            raise DecodeError(start)
        return number


def _read_order(reader):
    """Read an order."""
    source = reader.read_address()
    start = reader.at
    target = reader.read_address()
    if target == source:
        raise DecodeError(start)
    first = reader.read_number(MAX_DAY)
    days = reader.read_number(MAX_DAY - first)
    way = reader.read_byte(1, MAX_WAY)
    return source, target, first, first + days, way


def _address_values(address):
    """The values of the bytes of an address."""
    return [len(address)] + [LETTERS.index(letter) for letter in address]


def _number_values(number):
    """The values of the bytes of a number, the lowest group first."""
    values = []
    while number >= MORE:
        values.append(MORE + (number & (MORE - 1)))
        number = number // MORE
    return values + [number]


def _checksum(values):
    """The checksum of the values of bytes."""
    checksum = FIRST_CHECKSUM
    for value in values:
        checksum = int(2 * checksum + value) % 241
    return checksum
