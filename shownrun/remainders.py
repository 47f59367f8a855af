"""Which mixers make the sum of all equations, each by its divisor, a polynomial.

All divisors divide X ** T - 1, so the sum is a polynomial exactly if, times X ** T - 1, it is 0 at the places of all
rows. What an equation adds there is its mixer, times its worth at the row, times the share of its kind, which is
X ** T - 1 by the divisor.
"""

from shownrun.equations import KINDS
from shownrun.primes import inverse


def _kind_shares(places, row):
    """The share of each kind at the place of a row."""
    x, last = places.row_place(row), places.row_place(places.rows - 1)
    # X ** T - 1 by X - x has the worth T / x at x, and is 0 at the other rows' places.
    end = places.rows * inverse(x, places.p)
    return {"all": 1, "step": x - last, "first": end if row == 0 else 0,
            "last": end if row == places.rows - 1 else 0}


def shares(worths, places):
    """What all equations add at each row ahead of their mixers, for their worths at each row."""
    made = []
    for row, here in enumerate(worths):
        factors = _kind_shares(places, row)
        made.append([worth * factors[kind] % places.p for worth, kind in zip(here, KINDS)])
    return made


def last_number(added):
    """The number of the last equation that adds something at some row, which is the last one that fails; 0 if none."""
    numbers = [number for here in added for number, share in enumerate(here, start=1) if share != 0]
    return max([0] + numbers)


def mixer_lot(number, added, mixers, p):
    """The tuple of the worths of the mixer with a number that make the sum a polynomial.

    The equation with this number adds something at some row, so there is at most one such worth.
    """
    lines = []
    for here in added:
        others = [mixer * share for mixer, share in zip(mixers, here)]
        own = here[number - 1]
        lines.append((own, sum(others) - mixers[number - 1] * own))
    low, high = [(own, rest) for own, rest in lines if own != 0][0]
    worth = -high * inverse(low, p) % p
    return (worth,) if all([(own * worth + rest) % p == 0 for own, rest in lines]) else ()
