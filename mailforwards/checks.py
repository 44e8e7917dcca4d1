"""What is an address, a day or a number, and the errors for anything else."""

from mailforwards.errors import InvalidAddress, InvalidDay, InvalidNumber

MAX_DAY = 10 ** 18
MAX_LETTERS = 8
LETTERS = "abcdefghijklmnopqrstuvwxyz"


def is_number(value, low, high):
    """Tell whether a value is a number from low to high."""
    # True and False are integers for Python, but not for this package.
    return isinstance(value, int) and not isinstance(value, bool) and low <= value <= high


def is_address(value):
    """Tell whether a value is a string of one to eight letters a to z."""
    if not isinstance(value, str) or not 1 <= len(value) <= MAX_LETTERS:
        return False
    return all([letter in LETTERS for letter in value])


def is_day(value):
    """Tell whether a value is a day on which a letter can be posted."""
    return is_number(value, 0, MAX_DAY)


def check_address(address):
    """Raise InvalidAddress for anything that is not an address."""
    if not is_address(address):
        raise InvalidAddress("an address has one to eight letters a to z")


def check_day(day):
    """Raise InvalidDay for anything that is not a day on which a letter can be posted."""
    if not is_day(day):
        raise InvalidDay("a day is a number from 0 to 10 ** 18")


def check_letter(address, day):
    """Raise InvalidAddress, then InvalidDay, for anything that is not a letter."""
    check_address(address)
    check_day(day)


def check_number(number, low, high):
    """Raise InvalidNumber for anything that is not a number from low to high."""
    if not is_number(number, low, high):
        raise InvalidNumber("not a number, or beyond what is allowed here")
