"""Where letters go, where they end, and where they meet."""

from mailforwards.checks import check_letter, check_number
from mailforwards.errors import InvalidAddress
from mailforwards.walking import MAX_TIMES, holding, walk

MAX_ARRIVALS = 1000


def end(book, address, day):
    """The address at which a letter ends, and the day on which it arrives there."""
    check_letter(address, day)
    address, day, _ = _sent_on(book, address, day, MAX_TIMES)
    return address, day


def times_sent(book, address, day):
    """The number of orders by which a letter is sent on."""
    check_letter(address, day)
    return _sent_on(book, address, day, MAX_TIMES)[2]


def route(book, address, day, count):
    """Yield the addresses and days of the first arrivals of a letter, at most count."""
    check_letter(address, day)
    check_number(count, 0, MAX_ARRIVALS)
    for _ in range(count):
        yield address, day
        sending, _ = holding(book, day)
        if address not in sending:
            return
        address, way, _ = sending[address]
        day = day + way


def meeting(book, one, other):
    """The first address and day at which both letters arrive, or None."""
    _check_pair(one)
    _check_pair(other)
    end_one = _sent_on(book, one[0], one[1], MAX_TIMES)
    end_other = _sent_on(book, other[0], other[1], MAX_TIMES)
    # Letters that have met end together, and letters that end together have met.
    if end_one[:2] != end_other[:2]:
        return None
    return _first_common(book, one, end_one[2], other, end_other[2])


def _check_pair(letter):
    """Raise InvalidAddress, then InvalidDay, for anything that is not a letter."""
    # What is not a pair has no address that could be right.
    if not isinstance(letter, tuple) or len(letter) != 2:
        raise InvalidAddress("a letter is a tuple of an address and a day")
    check_letter(letter[0], letter[1])


def _first_common(book, one, times_one, other, times_other):
    """The first common arrival of two letters that end together after so many orders."""
    # From where they meet on, both are sent on by as many orders. So they are together
    # with few orders left, and apart with more than that: halving finds the limit.
    together = 0
    apart = min(times_one, times_other) + 1
    while apart - together > 1:
        left = (together + apart) // 2
        if _arrival(book, one, times_one - left) == _arrival(book, other, times_other - left):
            together = left
        else:
            apart = left
    return _arrival(book, one, times_one - together)


def _arrival(book, letter, times):
    """The arrival of a letter after so many orders."""
    address, day, _ = _sent_on(book, letter[0], letter[1], times)
    return address, day


def _sent_on(book, address, day, most):
    """The arrival of a letter after so many orders, or its last one, and how many it were."""
    times = 0
    sending, last = holding(book, day)
    while times < most and address in sending:
        address, day, more, _ = walk(sending, last, address, day, most - times)
        times = times + more
        sending, last = holding(book, day)
    return address, day, times
