"""The mixed word of all columns."""

from shownrun.draws import Draws
from shownrun.equations import KINDS, equation_worths
from shownrun.places import Places
from shownrun.primes import inverse
from shownrun.shapes import worths_of

_EARLY = 16
_MIXERS = 54
_COINS = 90


class Mixed:
    """The mixed word of 36 words, for counts and the coins B to r36."""

    def __init__(self, program, counts, words, coins, *, p, rows):
        self._places = Places(p, rows)
        self._draws = Draws(coins[:_EARLY], p=p)
        self._mixers = worths_of(coins[_EARLY:_MIXERS], p)
        self._weights = worths_of(coins[_MIXERS:_COINS], p)
        self._frame = program.frame
        self._closing = program.closing(counts, self._draws)
        reduced = [worths_of(word, p) for word in words]
        self._rows = tuple(zip(*reduced))

    def _row(self, place):
        """The worths of all words at a place."""
        return self._rows[place % self._places.size]

    def quotient_at(self, place):
        """C at a place."""
        p = self._places.p
        worths = equation_worths(self._row(place), self._row(place + 16), self._draws,
                                 frame=self._frame, closing=self._closing)
        inverses = {kind: inverse(self._places.divisor(kind, place), p) for kind in ("all", "step", "first", "last")}
        parts = [mixer * worth * inverses[kind] for mixer, worth, kind in zip(self._mixers, worths, KINDS)]
        return sum(parts) % p

    def worth_at(self, place):
        """W at a place."""
        parts = [weight * worth for weight, worth in zip(self._weights, self._row(place))]
        return (self.quotient_at(place) + sum(parts)) % self._places.p

    def quotients(self):
        """The word of C."""
        return tuple([self.quotient_at(place) for place in range(self._places.size)])

    def word(self):
        """The word of W."""
        return tuple([self.worth_at(place) for place in range(self._places.size)])
