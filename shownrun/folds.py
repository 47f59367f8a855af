"""Folding the words of paired codes by halves: folds, their lots, and good places."""

from shownrun.errors import BadShape
from shownrun.lots import check_counted
from shownrun.near import check_e, near_worths, together, within
from shownrun.primes import inverse


def fold_at(low, high, place, coin, p):
    """The fold at one place of the next layer, of the worths at a place and at minus this place."""
    # (u + v) / 2 + f * (u - v) / (2 x), brought to one denominator to invert only once.
    return (place * (low + high) + coin * (low - high)) * inverse(2 * place, p) % p


def _check_paired(code):
    if not code.paired:
        raise BadShape("places", len(code))


def _folded(code, word, coin):
    middle = len(code) // 2
    return tuple([fold_at(low, high, place, coin, code.p)
                  for low, high, place in zip(word[:middle], word[middle:], code.places[:middle])])


def fold(code, word, coin):
    """The fold of a word of a paired code, a word of its half."""
    _check_paired(code)
    return _folded(code, word, coin)


def even_odd(code, word):
    """The pair of the even part and the odd part of a word of a paired code."""
    _check_paired(code)
    even = _folded(code, word, 0)
    both = _folded(code, word, 1)
    return even, tuple([(total - worth) % code.p for total, worth in zip(both, even)])


def _checked_half(code, e):
    """The half of a paired code, for an e that fits the half."""
    half = code.half()
    check_e(half, e)
    return half


def _gaps_in_lot(half, even, odd, e):
    """How far both parts are from their Polys at the places of their lot, None if they are not together."""
    parts = together(half, [even, odd], e)
    if parts is None:
        return None
    polys, lot = parts
    return [(even[at] - polys[0](half.places[at]), odd[at] - polys[1](half.places[at])) for at in lot]


def _closes_gap(gaps, coin, p):
    """Whether the fold by a coin agrees at some place of the lot with the fold of the Polys."""
    return any([(low + coin * high) % p == 0 for low, high in gaps])


def fold_lot(code, word, e):
    """The ascending tuple of the worths in the fold lot of a word."""
    half = _checked_half(code, e)
    check_counted(code.p)
    even, odd = even_odd(code, word)
    gaps = _gaps_in_lot(half, even, odd, e)
    if gaps is None:
        return near_worths(half, even, odd, e)
    return tuple([coin for coin in range(code.p) if _closes_gap(gaps, coin, code.p)])


def in_fold_lot(code, word, coin, e):
    """Whether a coin lies in the fold lot of a word."""
    half = _checked_half(code, e)
    even, odd = even_odd(code, word)
    gaps = _gaps_in_lot(half, even, odd, e)
    if gaps is None:
        return within(half, _folded(code, word, coin), e)
    return _closes_gap(gaps, coin, code.p)


def _codes_of(code, count):
    """The codes of so many words that are folded one into another."""
    codes = [code]
    for _ in range(count - 1):
        codes.append(codes[-1].half())
    return codes


def _good_ahead(code, word, coin, behind, good):
    """The good places of a word, for the word behind it and the good places of that one."""
    folded = _folded(code, word, coin)
    middle = len(code) // 2
    low = [at for at in good if (folded[at] - behind[at]) % code.p == 0]
    return tuple(low + [at + middle for at in low])


def good_places(code, words, coins):
    """The list of the tuples of the good places of words, each folded by a coin into the one behind it."""
    codes = _codes_of(code, len(words))
    found = [tuple(range(len(codes[-1])))]
    for at in reversed(range(len(coins))):
        found.append(_good_ahead(codes[at], words[at], coins[at], words[at + 1], found[-1]))
    return found[::-1]
