"""A live post office."""

from mailforwards.checks import is_number
from mailforwards.errors import AlreadyOpen, InvalidOperation, UnknownLetter
from mailforwards.offices import Office, is_operation


class LivePost:
    """A post office in which letters are posted, days pass, and orders are given and ended."""

    def __init__(self, book):
        self._office = Office(book)
        # What there was at the beginning of a block, as long as one is open.
        self._kept = None

    def post(self, address):
        """Let a letter arrive today, and return its number."""
        return self._office.execute("post", address)

    def pass_days(self, count):
        """Let days pass, and return the list of the letters that come to rest in them."""
        return self._office.execute("pass_days", count)

    def give(self, order):
        """Give an order, and return its number."""
        return self._office.execute("give", order)

    def stop(self, index):
        """End an order on the day before today, and return its former last day."""
        return self._office.execute("stop", index)

    def __call__(self, letter):
        if not is_number(letter, 0, len(self._office.letters) - 1):
            raise UnknownLetter(letter)
        return self._office.letters[letter]

    def __len__(self):
        return len(self._office.letters)

    @property
    def today(self):
        """The day."""
        return self._office.day

    @property
    def present_book(self):
        """The book of all orders."""
        return self._office.book

    @property
    def resting(self):
        """The list of tuples (letter, address, day) of all letters that rest."""
        return [(number, address, day)
                for number, (address, day, rests) in enumerate(self._office.letters) if rests]

    @property
    def under_way(self):
        """The list of tuples (letter, address, day) of the next arrivals of all other letters."""
        return [(number, address, day)
                for number, (address, day, rests) in enumerate(self._office.letters) if not rests]

    @property
    def history(self):
        """The list of all operations in effect."""
        return [entry[0] for entry in self._office.done]

    def undo(self):
        """Undo the last operation in effect; False if there is none."""
        return self._office.undo()

    def redo(self):
        """Execute again what was undone last; False if there is nothing."""
        return self._office.redo()

    def apply(self, *operations):
        """Execute all operations, or none, and return the list of their results."""
        for index, operation in enumerate(operations):
            if not is_operation(operation):
                raise InvalidOperation(index)
        # If an operation raises an error, only the copy has been changed.
        office = self._office.copied()
        results = [office.execute(name, argument) for name, argument in operations]
        self._office = office
        return results

    @classmethod
    def replay(cls, book, operations):
        """A post office after a list of operations."""
        live = cls(book)
        live.apply(*operations)
        return live

    def resting_after(self, *operations):
        """The letters that rest after operations; nothing changes."""
        with self:
            self.apply(*operations)
            return self.resting

    def __enter__(self):
        if self._kept is not None:
            raise AlreadyOpen("a block of this post office is open")
        self._kept = self._office
        self._office = self._office.copied()
        return self

    def __exit__(self, kind, value, trace):
        self._office = self._kept
        self._kept = None
