"""Letters that arrive at an address on each of many days, and orders that are needless."""

from mailforwards.checks import MAX_DAY, check_address, check_letter, is_number
from mailforwards.ends import Ends
from mailforwards.errors import InvalidDay

UNLIKE_DAYS = 2000


def end_counts(book, address, first, last):
    """A dict from each address at which daily letters end to their number, ascending."""
    _check_days(address, first, last)
    counts = {}
    for end, _, _, _, many in Ends(book).groups(address, first, last):
        counts[end] = counts.get(end, 0) + many
    return {end: counts[end] for end in sorted(counts)}


def sent_by(book, address, first, last):
    """The ascending list of all orders that send on at least one of daily letters."""
    _check_days(address, first, last)
    orders = 0
    for _, more, _, _, _ in Ends(book).groups(address, first, last):
        orders = orders | more
    return [index for index in range(len(book)) if orders & (1 << index)]


def first_day_for(book, address, goal):
    """The first day on which a letter to an address ends at a goal, or None."""
    groups = _groups_for(book, address, goal)
    return min([first for _, _, first, _, _ in groups], default=None)


def last_day_for(book, address, goal):
    """The last day on which a letter to an address ends at a goal, or None."""
    groups = _groups_for(book, address, goal)
    return max([last for _, _, _, last, _ in groups], default=None)


def first_unlike_day(book, other, address, first):
    """The first of the next 2,000 days on which letters to an address end at different
    addresses in two books, or None."""
    check_letter(address, first)
    ends, other_ends = Ends(book), Ends(other)
    for day in range(first, min(first + UNLIKE_DAYS, MAX_DAY + 1)):
        if ends.end_of(address, day)[0] != other_ends.end_of(address, day)[0]:
            return day
    return None


def is_needless(book, index):
    """Tell whether each letter ends at the same address without an order."""
    return _returns_all(Ends(book), book[index])


def needless_orders(book):
    """The ascending list of all orders each of which is needless."""
    ends = Ends(book)
    return [index for index, order in enumerate(book.orders) if _returns_all(ends, order)]


def _check_days(address, first, last):
    """Raise InvalidAddress, then InvalidDay, for what is not an address and a span of days."""
    check_letter(address, first)
    if not is_number(last, first, MAX_DAY):
        raise InvalidDay("the last day is one from the first one to 10 ** 18")


def _groups_for(book, address, goal):
    """The groups of all letters to an address that end at a goal."""
    check_address(address)
    check_address(goal)
    return [group for group in Ends(book).groups(address, 0, MAX_DAY) if group[0] == goal]


def _returns_all(ends, order):
    """Tell whether all letters that an order sends on end at its source."""
    source, _, first, last, _ = order
    return all([group[0] == source for group in ends.groups(source, first, last)])
