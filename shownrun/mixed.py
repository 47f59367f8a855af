"""The mixed word of all columns."""

from shownrun.draws import EARLY, MIXERS, MIXING, Draws
from shownrun.equations import KINDS, equation_worths
from shownrun.places import Places
from shownrun.primes import inverse
from shownrun.shapes import words_of, worths_of

_STEP = 16


class Mixing:
    """How the worths of all columns are mixed at a place, for counts and the coins B to r36."""

    def __init__(self, program, counts, coins, *, p, rows):
        self._places = Places(p, rows)
        self._draws = Draws(coins[:EARLY], p=p)
        self._mixers = worths_of(coins[EARLY:MIXERS], p)
        self._weights = worths_of(coins[MIXERS:MIXING], p)
        self._frame = program.frame
        self._closing = program.closing(counts, self._draws)

    def quotient(self, place, here, behind):
        """C at a place, for the worths of all columns there and 16 places behind it."""
        p = self._places.p
        worths = equation_worths(here, behind, self._draws, frame=self._frame, closing=self._closing)
        inverses = {kind: inverse(self._places.divisor(kind, place), p) for kind in ("all", "step", "first", "last")}
        parts = [mixer * worth * inverses[kind] for mixer, worth, kind in zip(self._mixers, worths, KINDS)]
        return sum(parts) % p

    def mixed_worth(self, place, here, behind):
        """W at a place, for the worths of all columns there and 16 places behind it."""
        parts = [weight * worth for weight, worth in zip(self._weights, here)]
        return (self.quotient(place, here, behind) + sum(parts)) % self._places.p


class Mixed:
    """The mixed word of 36 words, for counts and the coins B to r36."""

    def __init__(self, program, counts, words, coins, *, p, rows):
        self._mixing = Mixing(program, counts, coins, p=p, rows=rows)
        reduced = words_of(words, p)
        self._rows = tuple(zip(*reduced))

    def _row(self, place):
        """The worths of all words at a place."""
        return self._rows[place % len(self._rows)]

    def quotient_at(self, place):
        """C at a place."""
        return self._mixing.quotient(place, self._row(place), self._row(place + _STEP))

    def worth_at(self, place):
        """W at a place."""
        return self._mixing.mixed_worth(place, self._row(place), self._row(place + _STEP))

    def quotients(self):
        """The word of C."""
        return tuple([self.quotient_at(place) for place in range(len(self._rows))])

    def word(self):
        """The word of W."""
        return tuple([self.worth_at(place) for place in range(len(self._rows))])
