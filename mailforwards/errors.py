"""The errors of the package."""

# No message shows the value that is wrong: Python cannot write out every number.


class MailError(ValueError):
    """The base class of all errors of the package."""


class InvalidOrder(MailError):
    """Something is not an order, or cannot stand behind the orders before it."""

    def __init__(self, index):
        super().__init__("not an order that a book can have at this index")
        self.index = index


class InvalidAddress(MailError):
    """Something is not an address."""


class InvalidDay(MailError):
    """Something is not a day that is allowed here."""


class InvalidNumber(MailError):
    """Something is not a number that is allowed here."""


class UnknownOrder(MailError):
    """A book has no order with this number."""

    def __init__(self, index):
        super().__init__("no order has this number")
        self.index = index


class AlreadyOpen(MailError):
    """A block of a post office is entered within another one."""


class NotHolding(MailError):
    """An order that is to be ended has not begun, or has ended."""

    def __init__(self, index):
        super().__init__("this order has not begun before today, or has ended")
        self.index = index


class UnknownLetter(MailError):
    """A post office has no letter with this number."""

    def __init__(self, letter):
        super().__init__("no letter has this number")
        self.letter = letter


class InvalidOperation(MailError):
    """Something is not an operation of a post office."""

    def __init__(self, index):
        super().__init__("not an operation of a post office")
        self.index = index


class Contradiction(MailError):
    """An observation leaves nothing possible."""


class NotationError(MailError):
    """A text has a wrong, missing or superfluous word."""

    def __init__(self, row, word):
        super().__init__("a word is wrong, missing or superfluous")
        self.row = row
        self.word = word


class InvalidCount(MailError):
    """Something is not a list of integers from 0 to 255."""


class DecodeError(MailError):
    """Bytes are not those of a book."""

    def __init__(self, offset):
        super().__init__("these bytes are not those of a book")
        self.offset = offset
