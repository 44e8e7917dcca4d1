"""Books of orders that send letters on."""

from mailforwards.checks import MAX_DAY, check_letter, check_number, is_address, is_day, is_number
from mailforwards.errors import InvalidOrder, UnknownOrder

ORDER_PARTS = 5
MAX_WAY = 30


def _is_order(value):
    """Tell whether a value has the form of an order."""
    if not isinstance(value, tuple) or len(value) != ORDER_PARTS:
        return False
    source, target, first, last, way = value
    if not is_address(source) or not is_address(target) or source == target:
        return False
    if not is_day(first) or not is_day(last) or first > last:
        return False
    return is_number(way, 1, MAX_WAY)


def share_day(one, other):
    """Tell whether two orders are of the same source and have a day in common."""
    return one[0] == other[0] and one[2] <= other[3] and other[2] <= one[3]


class Book:
    """Up to 30 orders, numbered from 0, that never change."""

    MAX_ORDERS = 30

    def __init__(self, *orders):
        for index, order in enumerate(orders):
            if index >= Book.MAX_ORDERS or not _is_order(order):
                raise InvalidOrder(index)
            if any([share_day(order, earlier) for earlier in orders[:index]]):
                raise InvalidOrder(index)
        self._orders = orders

    @classmethod
    def chain(cls, first, last, way, *addresses):
        """The book that sends letters on from each address to the next one."""
        orders = [(source, target, first, last, way)
                  for source, target in zip(addresses, addresses[1:])]
        return cls(*orders)

    @property
    def orders(self):
        """The tuple of all orders."""
        return self._orders

    @property
    def addresses(self):
        """The ascending tuple of all addresses in the orders."""
        return tuple(sorted({address for order in self._orders for address in order[:2]}))

    def __len__(self):
        return len(self._orders)

    def __getitem__(self, at):
        self._check_index(at)
        return self._orders[at]

    # Without this, Python would walk through a book by its indexes.
    def __iter__(self):
        raise TypeError("a book cannot be walked in a loop")

    def __contains__(self, x):
        return isinstance(x, str) and x in self.addresses

    def __add__(self, other):
        if not isinstance(other, Book):
            return NotImplemented
        orders = self._orders + other.orders
        return Book(*orders)

    def __rshift__(self, other):
        check_number(other, -MAX_DAY, MAX_DAY)
        orders = [(source, target, first + other, last + other, way)
                  for source, target, first, last, way in self._orders]
        return Book(*orders)

    def __eq__(self, other):
        return isinstance(other, Book) and self._orders == other._orders

    def without(self, *indexes):
        """The book without the orders of these numbers."""
        for index in indexes:
            self._check_index(index)
        orders = [order for at, order in enumerate(self._orders) if at not in indexes]
        return Book(*orders)

    def order_at(self, address, day):
        """The number of the order that sends on what arrives at an address on a day, or None."""
        check_letter(address, day)
        for index, order in enumerate(self._orders):
            if order[0] == address and order[2] <= day <= order[3]:
                return index
        return None

    def _check_index(self, index):
        """Raise UnknownOrder for anything that is not the number of an order."""
        if not is_number(index, 0, len(self._orders) - 1):
            raise UnknownOrder(index)


def with_last_day(book, index, day):
    """The book in which the last day of an order is this one."""
    source, target, first, _, way = book[index]
    return _with_order(book, index, (source, target, first, day, way))


def with_way(book, index, way):
    """The book in which the way of an order is this one."""
    source, target, first, last, _ = book[index]
    return _with_order(book, index, (source, target, first, last, way))


def _with_order(book, index, order):
    """The book with another order at an index."""
    orders = list(book.orders)
    orders[index] = order
    return Book(*orders)
