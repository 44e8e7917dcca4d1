"""Orders that are prolonged so that letters come to a goal."""

from mailforwards.books import MAX_WAY, Book, with_last_day
from mailforwards.checks import MAX_DAY, check_address, check_letter, is_number
from mailforwards.errors import InvalidDay
from mailforwards.walking import MAX_TIMES, walk


def prolonged(book, index, day):
    """The book in which the last day of an order is this one."""
    if not is_number(day, book[index][3], MAX_DAY):
        raise InvalidDay("an order is prolonged to its last day or later, up to 10 ** 18")
    return with_last_day(book, index, day)


def orders_to_prolong(book, address, day, goal):
    """The list of the orders that must be prolonged so that a letter ends at a goal, or None."""
    check_letter(address, day)
    check_address(goal)
    address, _, needed = _prolonging(book, address, day, goal)
    return needed if address == goal else None


def day_if_prolonged(book, address, day, goal):
    """The day on which a letter ends at a goal if orders are prolonged so, or None."""
    check_letter(address, day)
    check_address(goal)
    address, day, _ = _prolonging(book, address, day, goal)
    return day if address == goal else None


def _prolonging(book, address, day, goal):
    """The last arrival of a letter if orders are prolonged until it ends at a goal, and the
    list of these orders. The address is None if the letter is in a loop for ever."""
    needed = []
    # From the day on which all orders have ended, a letter takes each of them once at most, or
    # it comes into a loop. A letter that was sent on the day before is on its way until then.
    latest = max([day] + [order[3] for order in book.orders])
    limit = latest + (Book.MAX_ORDERS + 1) * MAX_WAY
    moves, last = _moves(book, day, goal, limit)
    while address in moves and day <= limit:
        start = day
        address, day, _, passed = walk(moves, last, address, day, MAX_TIMES)
        for index in [moves[source][2] for source in passed]:
            if book[index][3] < start and index not in needed:
                needed.append(index)
        moves, last = _moves(book, day, goal, limit)
    return (None if address in moves else address), day, needed


def _moves(book, day, goal, limit):
    """A dict as that of `holding`, of the orders that send on what arrives on a day if orders
    are prolonged, and the last day, up to a limit, on which it is the same."""
    begun = sorted([(order[2], index) for index, order in enumerate(book.orders) if order[2] <= day])
    moves = {}
    # Of an address, the order that began last holds, or it is the one that ended last.
    for _, index in begun:
        source, target, _, last, way = book[index]
        if source != goal or day <= last:
            moves[source] = (target, way, index)
    begins = [order[2] - 1 for order in book.orders if day < order[2]]
    ends = [order[3] for order in book.orders if day <= order[3]]
    return moves, min([limit] + begins + ends)
