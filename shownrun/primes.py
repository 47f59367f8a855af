"""The primes with their generators, and inverses and powers by a prime."""

from shownrun.errors import UnknownName
from shownrun.shapes import is_whole

PRIMES = ((193, 5), (257, 3), (769, 11), (7681, 17), (12289, 11), (998244353, 3), (2013265921, 31))
ROWS = (4, 8, 16, 32, 64)


def is_number(value, least, most):
    """Whether any value is a number from least to most."""
    return is_whole(value) and least <= value <= most


def fits(p, rows):
    """Whether any two values are a listed prime and a T that it fits."""
    if not is_whole(p) or not is_whole(rows):
        return False
    size = 16 * rows
    return p in dict(PRIMES) and rows in ROWS and (p - 1) % size == 0 and p - 1 != size


def generator(p):
    """The generator of a listed prime."""
    generators = dict(PRIMES)
    # The kind is looked at first, since a value of another kind may be no key of a dict.
    if not is_whole(p) or p not in generators:
        raise UnknownName(p)
    return generators[p]


def inverse(worth, p):
    """The worth whose product with this one is 1."""
    low, high = worth % p, p
    if low == 0:
        raise ZeroDivisionError("0 has no inverse")
    one, other = 1, 0
    # Euclid's way: one * worth is low and other * worth is high, modulo p, at each step.
    while low > 1:
        times = high // low
        low, high = high - times * low, low
        one, other = other - times * one, one
    return one % p


def power(worth, count, p):
    """The product of so many times the worth, by squaring."""
    made, base, left = 1, worth % p, count
    while left > 0:
        if left % 2 == 1:
            made = made * base % p
        base = base * base % p
        left = left // 2
    return made
