"""Books and routes as texts."""

from mailforwards.books import Book
from mailforwards.checks import MAX_LETTERS, is_address
from mailforwards.errors import NotationError
from mailforwards.letters import route

FIRST_WORD = "order"
ROW_WORDS = 6
FIGURES = "0123456789"
MAX_FIGURES = 19
DAY_SIGNS = 30


def format_book(book):
    """The text of a book, a row for each order."""
    return "\n".join([f"{FIRST_WORD} {source} {target} {first} {last} {way}"
                      for source, target, first, last, way in book.orders])


def parse_book(text):
    """The book of a text."""
    # What is no text has no word that could be right.
    if not isinstance(text, str):
        raise NotationError(0, 0)
    if text == "":
        return Book()
    orders = [_order_of(row, line.split(" ")) for row, line in enumerate(text.split("\n"))]
    return Book(*orders)


def travel_list(book, address, day, count):
    """A text with a line for each of the first arrivals of a letter, at most count."""
    arrivals = list(route(book, address, day, count))
    return "\n".join([place.ljust(MAX_LETTERS, ".") + f"{later:,}".rjust(DAY_SIGNS, ".")
                      for place, later in arrivals])


def _order_of(row, words):
    """The order that the words of a row tell."""
    for at, word in enumerate(words):
        if not _is_right(at, word):
            raise NotationError(row, at)
    if len(words) < ROW_WORDS:
        raise NotationError(row, len(words))
    _, source, target, first, last, way = words
    return source, target, int(first), int(last), int(way)


def _is_right(at, word):
    """Tell whether a word may stand at a place of a row; behind the last one, none may."""
    if at == 0:
        return word == FIRST_WORD
    if at <= 2:
        return is_address(word)
    return at < ROW_WORDS and _is_number_word(word)


def _is_number_word(word):
    """Tell whether a word has 1 to 19 figures and no leading zeros."""
    if not 1 <= len(word) <= MAX_FIGURES or not all([sign in FIGURES for sign in word]):
        return False
    return word == "0" or not word.startswith("0")
