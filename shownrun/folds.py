"""Folding the words of paired codes by halves."""

from shownrun.errors import BadShape
from shownrun.primes import inverse


def fold_at(low, high, place, coin, p):
    """The fold at one place of the next layer, of the worths at a place and at minus this place."""
    # (u + v) / 2 + f * (u - v) / (2 x), brought to one denominator to invert only once.
    return (place * (low + high) + coin * (low - high)) * inverse(2 * place, p) % p


def _check_paired(code):
    if not code.paired:
        raise BadShape("places", len(code))


def _folded(code, word, coin):
    middle = len(code) // 2
    return tuple([fold_at(low, high, place, coin, code.p)
                  for low, high, place in zip(word[:middle], word[middle:], code.places[:middle])])


def fold(code, word, coin):
    """The fold of a word of a paired code, a word of its half."""
    _check_paired(code)
    return _folded(code, word, coin)


def even_odd(code, word):
    """The pair of the even part and the odd part of a word of a paired code."""
    _check_paired(code)
    even = _folded(code, word, 0)
    both = _folded(code, word, 1)
    return even, tuple([(total - worth) % code.p for total, worth in zip(both, even)])
