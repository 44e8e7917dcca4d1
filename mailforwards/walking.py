"""Letters on their way while the same orders send them on."""

from mailforwards.checks import MAX_DAY

# Each order takes a day at least, and none sends on what arrives behind the last day.
MAX_TIMES = MAX_DAY + 1


def holding(book, day):
    """A dict from the source of each order that holds on a day to its target, its way and its
    number, and the last day on which all of these orders hold."""
    sending = {}
    last_days = []
    for index, order in enumerate(book.orders):
        source, target, first, last, way = order
        if first <= day <= last:
            sending[source] = (target, way, index)
            last_days.append(last)
    return sending, min(last_days, default=day)


def walk(sending, last, address, day, most):
    """Send a letter on, by such a dict, up to a last day and by at most so many orders.

    Returns the address and the day of its last arrival then, by how many orders it was sent,
    and the list of the addresses from which it was sent, in the sequence of the first times.
    """
    times = 0
    passed = {}
    skipped = False
    while times < most and day <= last and address in sending:
        if address in passed and not skipped:
            # A loop can take 10 ** 18 days: its rounds are counted, not walked.
            days, orders = day - passed[address][0], times - passed[address][1]
            rounds = min((last - day) // days, (most - times) // orders)
            day, times = day + rounds * days, times + rounds * orders
            # Less than a round is left now, and that is walked.
            skipped = True
        else:
            passed.setdefault(address, (day, times))
            address, way, _ = sending[address]
            day, times = day + way, times + 1
    return address, day, times, list(passed)
