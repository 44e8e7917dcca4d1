"""Where the letters of many days end."""

from mailforwards.books import MAX_WAY
from mailforwards.checks import MAX_DAY
from mailforwards.walking import MAX_TIMES, holding, walk


class Ends:
    """Where letters end by the orders of a book. What has been found once is kept."""

    def __init__(self, book):
        self._stretches = _stretches(book)
        self._found = {}

    def end_of(self, address, day):
        """The address at which a letter ends, and the orders that send it on, a bit for each."""
        walked = []
        while (address, day) not in self._found:
            letter = (address, day)
            _, last, sending = self._stretch_of(day)
            if address in sending:
                address, day, _, passed = walk(sending, last, address, day, MAX_TIMES)
                walked.append((letter, sum([1 << sending[source][2] for source in passed])))
            else:
                self._found[letter] = (address, 0)
        end, orders = self._found[(address, day)]
        for letter, bits in reversed(list(walked)):
            orders = orders | bits
            self._found[letter] = (end, orders)
        return end, orders

    def groups(self, address, first, last):
        """Put daily letters of many days into few groups, of which each ends at one address.

        A group is a tuple of this address, of the orders that send on letters of the group, a
        bit for each, of its first and its last day, and of the number of its letters.
        """
        found = []
        for begin, until, sending in self._stretches:
            days = _alike_days(sending, until, address, max(first, begin), min(last, until))
            for day, latest, many in days:
                end, orders = self.end_of(address, day)
                found.append((end, orders, day, latest, many))
        return found

    def _stretch_of(self, day):
        """The stretch in which a day lies."""
        at = 0
        while self._stretches[at][1] < day:
            at = at + 1
        return self._stretches[at]


def _stretches(book):
    """All stretches of days in which no order begins or ends, in ascending sequence.

    Each is a tuple of its first and its last day, and of the dict of the orders that hold.
    """
    # What is sent on, on the last day at the latest, arrives so many days later at most.
    cuts = [0, MAX_DAY + MAX_WAY + 1]
    for order in book.orders:
        cuts = cuts + [order[2], order[3] + 1]
    cuts = sorted(set(cuts))
    return [(begin, after - 1, holding(book, begin)[0]) for begin, after in zip(cuts, cuts[1:])]


def _alike_days(sending, until, address, first, last):
    """Tuples of a first day, a last day and a number: so many of the letters to an address from
    a first to a last day, within a stretch until a day, end at the same address."""
    days, period = _settling(sending, address)
    settled = min(last, until - days)
    found = []
    for day in range(first, min(first + period, settled + 1)):
        many = (settled - day) // period + 1
        found.append((day, day + (many - 1) * period, many))
    # Each of the others is still on its way to the loop, or to its end, when the stretch ends.
    return found + [(day, day, 1) for day in range(max(first, settled + 1), last + 1)]


def _settling(sending, address):
    """After how many days a letter has come into a loop, or to its end, while the same orders
    hold, and how many days later the next letter ends as it does."""
    passed = {}
    days = 0
    while address in sending and address not in passed:
        passed[address] = days
        address, way, _ = sending[address]
        days = days + way
    if address in passed:
        return passed[address], days - passed[address]
    return days, 1
