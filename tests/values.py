"""Numbers and odd values that several tests use."""

from shownrun.codes import Code
from shownrun.polys import Poly

LISTED = {193: 5, 257: 3, 769: 11, 7681: 17, 12289: 11, 998244353: 3, 2013265921: 31}
SIZES = (4, 8, 16, 32, 64)
FITTING = ([(193, 4)] + [(257, rows) for rows in (4, 8)] + [(769, rows) for rows in (4, 8, 16)]
           + [(7681, rows) for rows in (4, 8, 16, 32)]
           + [(p, rows) for p in (12289, 998244353, 2013265921) for rows in SIZES])
# Primes of all sizes, the greatest of them with ten digits.
SOME_PRIMES = (2, 3, 5, 7, 13, 193, 257, 769, 12289, 998244353, 2013265921, 9999999967)


class Thing:
    """An object of a foreign class."""


def no_lists():
    """Values of every kind that are no lists, numbers among them."""
    return [None, True, False, 0, 1, -1, 4, 9999999999, "", "abcd", "all", Thing(), Poly([4], p=257), Poly(p=257),
            Code([1, 2, 3, 4], 2, p=257)]


def no_numbers():
    """Values of every kind that are no numbers."""
    return [None, True, False, "", "4", "all", [], [4], (), (4,), [[]], ((1, 2), [3]), [None, [True]], Thing(),
            Poly([4], p=257), Poly(p=257), Code([1, 2, 3, 4], 2, p=257)]


def numbers(seed, count, least=-9999999999, most=9999999999):
    """A list of numbers that looks like chance and is the same each time."""
    state, made = seed * 7919 + 12345, []
    for _ in range(count):
        state = (state * 6364136223846793005 + 1442695040888963407) % 2 ** 64
        made.append(least + (state >> 20) % (most - least + 1))
    return made
