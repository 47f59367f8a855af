"""The early coins, and the names of all coins."""

from shownrun.errors import BadShape
from shownrun.shapes import list_length, worths_of

# How many coins are heard up to w, up to c38 and up to r36.
EARLY = 16
MIXERS = 54
MIXING = 90


class Draws:
    """The early coins B, z, k_1 to k_13 and w."""

    def __init__(self, coins, *, p):
        count = list_length(coins)
        if count != EARLY:
            raise BadShape("coins", count)
        worths = worths_of(coins, p)
        self.B = worths[0]
        self.z = worths[1]
        self.k = worths[2:15]
        self.w = worths[15]
        self.p = p

    def mix(self, fields):
        """The mix of fourteen fields."""
        parts = [coin * worth for coin, worth in zip(self.k, fields[1:])]
        return (fields[0] + sum(parts)) % self.p

    def touch(self, address, worth):
        """F(address, worth), the factor of a touch."""
        return (self.z - address - self.B * worth) % self.p

    def __eq__(self, other):
        return (isinstance(other, Draws) and self.p == other.p and self.B == other.B and self.z == other.z
                and self.k == other.k and self.w == other.w)


def _numbered(letter, first, last):
    return [f"{letter}{number}" for number in range(first, last + 1)]


def coin_names(rows):
    """The list of the names of the coins, in the order in which they are heard."""
    early = ["B", "z"] + _numbered("k", 1, 13) + ["w"]
    mixers = _numbered("c", 1, 38) + _numbered("r", 1, 36)
    return early + mixers + _numbered("f", 0, rows.bit_length() - 1)
