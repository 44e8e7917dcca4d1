"""Books of many shapes to test with, the same ones for each run."""

import random

import slow
from mailforwards.books import Book
from wrong import LAST_DAY


def scattered_books(count, longest=4):
    """Books of many shapes, the same ones for each run."""
    chance = random.Random(4)
    for _ in range(count):
        yield Book(*slow.random_orders(chance, "abcd", 60, longest))


# All loops of at most four orders, of one or two days each, divide this number of days.
PERIOD = 8 * 3 * 5 * 7
# What holds on this day is prolonged, and what begins behind it is put off.
STRETCHED = 30
# By this day, letters of the first 30 days have ended, or have come into a loop.
SETTLED = 45
# So many days longer are the great books than the small ones.
SHIFT = (LAST_DAY // PERIOD - 2) * PERIOD


def stretched(orders, days):
    """Orders as they are if one day takes so many days more."""
    return [(source, target, first + days * (first > STRETCHED), last + days * (last >= STRETCHED), way)
            for source, target, first, last, way in orders]


def stretched_books(count, *days):
    """Tuples of books in which one day takes so many days more."""
    chance = random.Random(44)
    for _ in range(count):
        orders = slow.random_orders(chance, "abcd", 60, 2)
        yield tuple(Book(*stretched(orders, more)) for more in days)


def small_and_great_books(count):
    """Pairs of books with long and longer loops, and how many days these are longer."""
    for small, great in stretched_books(count, PERIOD, PERIOD + SHIFT):
        yield small, great, SHIFT


def shifted(arrival, shift):
    """An arrival in a small book as it is in the great one."""
    return arrival if arrival[1] <= SETTLED else (arrival[0], arrival[1] + shift)
