"""What a post office holds, and the operations that change it."""

from mailforwards.books import Book, with_last_day
from mailforwards.checks import check_address, check_number
from mailforwards.errors import NotHolding

OPERATIONS = ("post", "pass_days", "give", "stop")
MAX_DAYS_PASSED = 400


def is_operation(value):
    """Tell whether a value is a tuple of the name of an operation and one argument."""
    if not isinstance(value, tuple) or len(value) != 2:
        return False
    return isinstance(value[0], str) and value[0] in OPERATIONS


class Office:
    """A book, a day, letters, and the operations that led to them.

    A letter is a tuple of an address, a day and a boolean: those of its last arrival and True
    if it rests, or those of its next arrival and False.
    """

    def __init__(self, book):
        self.book = book
        self.day = 0
        self.letters = []
        # Each entry is an operation, and what is needed to undo it.
        self.done = []
        self.undone = []

    def copied(self):
        """A post office that holds the same, and changes on its own."""
        office = Office(self.book)
        office.day = self.day
        office.letters = list(self.letters)
        office.done = list(self.done)
        office.undone = list(self.undone)
        return office

    def execute(self, name, argument):
        """Execute an operation, and return its result."""
        result = self._execute(name, argument)
        self.undone = []
        return result

    def undo(self):
        """Undo the last operation, and tell whether there was one."""
        if len(self.done) == 0:
            return False
        operation, (book, day, many, moving) = self.done.pop()
        self.book = book
        self.day = day
        del self.letters[many:]
        for number, letter in moving.items():
            self.letters[number] = letter
        self.undone.append(operation)
        return True

    def redo(self):
        """Execute again what was undone last, and tell whether there was anything."""
        if len(self.undone) == 0:
            return False
        name, argument = self.undone.pop()
        self._execute(name, argument)
        return True

    def _execute(self, name, argument):
        """Execute an operation, with an entry of what is needed to undo it."""
        moving = {}
        if name == "pass_days":
            moving = {number: letter for number, letter in enumerate(self.letters) if not letter[2]}
        before = (self.book, self.day, len(self.letters), moving)
        result = self._change(name, argument)
        self.done.append(((name, argument), before))
        return result

    def _change(self, name, argument):
        """Do what an operation does; nothing, if it raises an error."""
        if name == "post":
            return self._post(argument)
        if name == "pass_days":
            return self._pass_days(argument)
        if name == "give":
            return self._give(argument)
        return self._stop(argument)

    def _post(self, address):
        check_address(address)
        self.letters.append(self._arrived(address, self.day))
        return len(self.letters) - 1

    def _pass_days(self, count):
        check_number(count, 0, MAX_DAYS_PASSED)
        self.day = self.day + count
        rested = []
        for number, letter in enumerate(list(self.letters)):
            if not letter[2]:
                address, day, rests = self._moved(letter)
                self.letters[number] = (address, day, rests)
                if rests:
                    rested.append((day, number))
        return [number for _, number in sorted(rested)]

    def _give(self, order):
        orders = list(self.book.orders) + [order]
        self.book = Book(*orders)
        return len(self.book) - 1

    def _stop(self, index):
        _, _, first, last, _ = self.book[index]
        if not first < self.day <= last:
            raise NotHolding(index)
        self.book = with_last_day(self.book, index, self.day - 1)
        return last

    def _moved(self, letter):
        """A letter that is under way after its arrivals up to today."""
        address, day, rests = letter
        # The book has been the same since the day before the first one of these arrivals.
        while not rests and day <= self.day:
            address, day, rests = self._arrived(address, day)
        return address, day, rests

    def _arrived(self, address, day):
        """A letter that has arrived at an address."""
        index = self.book.order_at(address, day)
        if index is None:
            return address, day, True
        _, target, _, _, way = self.book[index]
        return target, day + way, False
