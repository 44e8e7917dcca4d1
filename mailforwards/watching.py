"""Observers of letters, who do not know the way of an order, or where a letter was posted."""

from mailforwards.books import MAX_WAY, with_way
from mailforwards.checks import check_address, check_day, check_letter, check_number
from mailforwards.ends import Ends
from mailforwards.errors import Contradiction
from mailforwards.letters import MAX_ARRIVALS, end, route

MAX_LIMIT = 500


class WayObserver:
    """An observer who knows a book, but not the way of one of its orders."""

    def __init__(self, book, index):
        self._ways = list(range(1, MAX_WAY + 1))
        self._books = {way: with_way(book, index, way) for way in self._ways}
        self._observations = []

    def see_end(self, address, day, goal):
        """Record where a letter ends, and return how many ways remain possible."""
        check_letter(address, day)
        check_address(goal)
        ways = [way for way in self._ways if end(self._books[way], address, day)[0] == goal]
        if len(ways) == 0:
            raise Contradiction("the letter ends there by no way that is possible")
        self._ways = ways
        self._observations.append((address, day, goal))
        return len(ways)

    @property
    def ways(self):
        """The ascending list of all possible ways."""
        return list(self._ways)

    @property
    def observations(self):
        """The list of all accepted observations, tuples (address, day, end)."""
        return list(self._observations)

    def telling_day(self, address, limit):
        """The first day, up to a limit, on which letters to an address end at different
        addresses by different possible ways, or None."""
        check_address(address)
        check_number(limit, 0, MAX_LIMIT)
        all_ends = [Ends(self._books[way]) for way in self._ways]
        for day in range(limit + 1):
            if len({ends.end_of(address, day)[0] for ends in all_ends}) > 1:
                return day
        return None


class LetterObserver:
    """An observer who knows a book and the day of a letter, but not where it was posted."""

    def __init__(self, book, day):
        check_day(day)
        self._book = book
        self._day = day
        self._candidates = list(book.addresses)
        self._arrivals = {address: _first_arrivals(book, address, day)
                          for address in self._candidates}
        self._observations = []

    @classmethod
    def from_log(cls, book, day, *observations):
        """An observer after observations, tuples (name of the method, address, day)."""
        observer = cls(book, day)
        for name, address, seen in observations:
            if name == "see_arrival":
                observer.see_arrival(address, seen)
            elif name == "see_none":
                observer.see_none(address, seen)
            else:
                raise TypeError("an observation has the name see_arrival or see_none")
        return observer

    def see_arrival(self, address, day):
        """Record that the letter arrives, and return how many addresses remain possible."""
        return self._see("see_arrival", address, day)

    def see_none(self, address, day):
        """Record that the letter does not arrive, and return how many addresses remain possible."""
        return self._see("see_none", address, day)

    @property
    def candidates(self):
        """The ascending list of all possible addresses."""
        return list(self._candidates)

    @property
    def observations(self):
        """The list of all accepted observations, tuples as from_log takes."""
        return list(self._observations)

    def possible_ends(self):
        """A dict from each address at which the letter can end to the number of possible
        addresses from which it ends there, ascending."""
        ends = [end(self._book, address, self._day)[0] for address in self._candidates]
        return {address: ends.count(address) for address in sorted(set(ends))}

    def __len__(self):
        return len(self._candidates)

    def __contains__(self, x):
        return x in self._candidates

    def _see(self, name, address, day):
        """Record an observation, and return how many addresses remain possible."""
        check_letter(address, day)
        arrives = name == "see_arrival"
        candidates = [candidate for candidate in self._candidates
                      if (self._arrivals[candidate].get(day) == address) == arrives]
        if len(candidates) == 0:
            raise Contradiction("no address that is possible agrees with this")
        self._candidates = candidates
        self._observations.append((name, address, day))
        return len(candidates)


def _first_arrivals(book, address, day):
    """A dict from the days of the first arrivals of a letter to their addresses."""
    # A letter is on its way for a day at least, so no day has two arrivals.
    return {later: place for place, later in route(book, address, day, MAX_ARRIVALS)}
