"""Where letters go, where they end, and where they meet."""

from mailforwards.checks import MAX_DAY, check_letter, check_number
from mailforwards.errors import InvalidAddress

MAX_ARRIVALS = 1000
# Each order takes a day at least, and none sends on what arrives behind the last day.
MAX_TIMES = MAX_DAY + 1


def end(book, address, day):
    """The address at which a letter ends, and the day on which it arrives there."""
    check_letter(address, day)
    address, day, _ = _sent_on(book, address, day, MAX_TIMES)
    return address, day


def times_sent(book, address, day):
    """The number of orders by which a letter is sent on."""
    check_letter(address, day)
    return _sent_on(book, address, day, MAX_TIMES)[2]


def route(book, address, day, count):
    """Yield the addresses and days of the first arrivals of a letter, at most count."""
    check_letter(address, day)
    check_number(count, 0, MAX_ARRIVALS)
    for _ in range(count):
        yield address, day
        sending = _holding(book, day)[0]
        if address not in sending:
            return
        address, way = sending[address]
        day = day + way


def meeting(book, one, other):
    """The first address and day at which both letters arrive, or None."""
    _check_pair(one)
    _check_pair(other)
    end_one = _sent_on(book, one[0], one[1], MAX_TIMES)
    end_other = _sent_on(book, other[0], other[1], MAX_TIMES)
    # Letters that have met end together, and letters that end together have met.
    if end_one[:2] != end_other[:2]:
        return None
    return _first_common(book, one, end_one[2], other, end_other[2])


def _check_pair(letter):
    """Raise InvalidAddress, then InvalidDay, for anything that is not a letter."""
    # What is not a pair has no address that could be right.
    if not isinstance(letter, tuple) or len(letter) != 2:
        raise InvalidAddress("a letter is a tuple of an address and a day")
    check_letter(letter[0], letter[1])


def _first_common(book, one, times_one, other, times_other):
    """The first common arrival of two letters that end together after so many orders."""
    # From where they meet on, both are sent on by as many orders. So they are together
    # with few orders left, and apart with more than that: halving finds the limit.
    together = 0
    apart = min(times_one, times_other) + 1
    while apart - together > 1:
        left = (together + apart) // 2
        if _arrival(book, one, times_one - left) == _arrival(book, other, times_other - left):
            together = left
        else:
            apart = left
    return _arrival(book, one, times_one - together)


def _arrival(book, letter, times):
    """The arrival of a letter after so many orders."""
    address, day, _ = _sent_on(book, letter[0], letter[1], times)
    return address, day


def _sent_on(book, address, day, most):
    """The arrival of a letter after so many orders, or its last one, and how many it were."""
    times = 0
    sending, last = _holding(book, day)
    while times < most and address in sending:
        address, day, more = _sent_until(sending, last, address, day, most - times)
        times = times + more
        sending, last = _holding(book, day)
    return address, day, times


def _holding(book, day):
    """A dict from the source of each order that holds on a day to its target and its way,
    and the last day on which all of these orders hold."""
    orders = [order for order in book.orders if order[2] <= day <= order[3]]
    sending = {order[0]: (order[1], order[4]) for order in orders}
    return sending, min([order[3] for order in orders], default=day)


def _sent_until(sending, last, address, day, most):
    """As _sent_on, but by these orders only, and up to their last day."""
    times = 0
    seen = {}
    while times < most and day <= last and address in sending:
        if address in seen:
            # A loop can take 10 ** 18 days: its rounds are counted, not walked.
            days, orders = day - seen[address][0], times - seen[address][1]
            rounds = min((last - day) // days, (most - times) // orders)
            day, times = day + rounds * days, times + rounds * orders
            # Less than a round is left now, and that is walked.
            seen = {}
        else:
            seen[address] = (day, times)
            address, way = sending[address]
            day, times = day + way, times + 1
    return address, day, times
