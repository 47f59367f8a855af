"""Tellers: the honest one, those of any tables, and those that change what another one lays."""

from shownrun.draws import EARLY, MIXING
from shownrun.errors import TooMany
from shownrun.folds import fold
from shownrun.mixed import Mixed
from shownrun.places import Places
from shownrun.primes import ROWS
from shownrun.rows import filled
from shownrun.runs import run
from shownrun.shapes import is_whole, words_of, worths_of
from shownrun.stretching import first_words, later_words


class Tables:
    """A teller that lays these words and counts, and then what follows from them."""

    def __init__(self, program, words, counts, later, *, p, rows):
        self.program = program
        self.words = words_of(words, p)
        self.counts = tuple(counts)
        self.p = p
        self.rows = rows
        self._later = words_of(later, p) if isinstance(later, (list, tuple)) else later

    def __call__(self, step, heard):
        """What is laid at a step, for the coins heard so far."""
        if step == 0:
            return self.words, self.counts
        coins = worths_of(heard, self.p)
        if step == 1:
            return self._later_words(coins)
        word = self._folded(step - 1, coins)
        # The number is the worth at place 0 of a fold more than there are layers to lay.
        return word[0] if step == Places(self.p, self.rows).layers + 2 else word

    def _later_words(self, coins):
        if isinstance(self._later, tuple):
            return self._later
        # The function gets a list of its own, which it may change.
        return words_of(self._later(list(coins[:EARLY])), self.p)

    def _folded(self, times, coins):
        """The mixed word, folded so many times."""
        places = Places(self.p, self.rows)
        mixed = Mixed(self.program, self.counts, self.words + self._later_words(coins), coins[:MIXING],
                      p=self.p, rows=self.rows)
        word = mixed.word()
        for layer in range(times):
            word = fold(places.layer(layer), word, coins[MIXING + layer])
        return word


def of_rows(program, rows, counts=None):
    """The Tables teller for Rows, with their counts if there are no others."""
    words = first_words(rows)
    made = rows.counted(program) if counts is None else counts
    return Tables(program, words, made, lambda coins: later_words(rows, coins), p=rows.p, rows=len(rows))


def house(program, secrets=(), *, p, rows=None):
    """The honest teller of the run with these secrets, with the T that it needs or another one."""
    made = run(program, secrets, p=p)
    count = made.needs if rows is None else rows
    if count is None:
        raise TooMany("rows", ROWS[-1])
    return of_rows(program, filled(made, count))


def _changed_word(word, changes):
    """A new list of the numbers of a word, with changes (place, worth)."""
    made = list(word)
    for place, worth in changes:
        made[place] = made[place] + worth
    return made


def _changed_words(words, changes):
    """A new list of new lists of words, with changes (word, place, worth)."""
    return [_changed_word(word, [(place, worth) for which, place, worth in changes if which == at])
            for at, word in enumerate(words)]


class Changed:
    """A teller that lays what another one lays, with worths added at places of some steps."""

    def __init__(self, teller, *changes):
        self._teller = teller
        self._changes = tuple([tuple(change) for change in changes])

    def __call__(self, step, heard):
        """What is laid at a step, for the coins heard so far."""
        laid = self._teller(step, list(heard))
        changes = [(word, place, worth) for at, word, place, worth in self._changes if at == step]
        if step == 0:
            words, counts = laid
            return _changed_words(words, changes), list(counts)
        if step == 1:
            return _changed_words(laid, changes)
        if is_whole(laid):
            return laid + sum([worth for _, _, worth in changes])
        return _changed_word(laid, [(place, worth) for _, place, worth in changes])
