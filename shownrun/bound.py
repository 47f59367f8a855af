"""How many members the lots of coins have at most, and how many rows of coins and looks pass without a run."""

from shownrun.draws import EARLY, MIXERS, coin_names
from shownrun.places import Places


def _part(name, rows):
    """How many members the lot of a coin has at most, for coins other than the mixers of equations."""
    near = 4 * rows
    if name in ("B", "z"):
        return 3 * rows
    if name[0] == "r":
        return near + 1
    if name[0] == "f":
        return (near >> (int(name[1:]) + 1)) + 1
    return rows


def lot_parts(rows):
    """The list of the pairs (name, part) of all coins, in which the mixers of equations are one."""
    names = coin_names(rows)
    early = [(name, _part(name, rows)) for name in names[:EARLY]]
    return early + [("c", 1)] + [(name, _part(name, rows)) for name in names[MIXERS:]]


def _product(worth, count):
    """So many times the worth, as an exact number."""
    total = 1
    for _ in range(count):
        total = total * worth
    return total


def bound(*, p, rows, looks):
    """How many of all rows of coins and looks pass at most, where there is no run."""
    places = Places(p, rows)
    coins = len(coin_names(rows))
    members = sum([part for _, part in lot_parts(rows)])
    lucky = members * _product(p, coins - 1) * _product(places.size, looks)
    return lucky + _product(p, coins) * _product(places.size - places.bad - 2, looks)


def talk_bound(talk):
    """The bound of the prime, the T and the looks of a talk."""
    return bound(p=talk.p, rows=talk.rows, looks=talk.looks)
