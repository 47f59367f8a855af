"""Near words: mending, words that are together, and the lots of lines and of mixes."""

from shownrun.errors import BadShape, NotNear
from shownrun.lots import check_counted
from shownrun.polys import Poly, with_roots
from shownrun.primes import is_number


def check_e(code, e):
    """Refuses what is no number from 0 on whose double is below the distance of a code."""
    if not is_number(e, 0, (code.distance - 1) // 2):
        raise BadShape("e", e)


def combined(words, worths, *, p):
    """The sum of the words, each times its worth."""
    total = [0] * len(words[0])
    for word, factor in zip(words, worths):
        total = [(low + factor * high) % p for low, high in zip(total, word)]
    return tuple(total)


def parted(code, word, poly):
    """The ascending tuple of the indices of the places at which a word and a Poly part."""
    return tuple([at for at, (x, worth) in enumerate(zip(code.places, word)) if (worth - poly(x)) % code.p != 0])


def _through_word(code, word):
    """The Poly that has all worths of a word, of any degree."""
    return Poly.through(list(zip(code.places, word)), p=code.p)


def _vanishing(code):
    """The Poly with the places of a code as its roots."""
    return Poly(with_roots(code.places, code.p), p=code.p)


def _mended_poly(code, vanishing, whole, e):
    """The Poly within e of the word that the Poly whole goes through, None if there is none.

    Euclid's way with the vanishing Poly keeps rest = factor * whole at all places. If f is within e, the first rest
    of a degree below N' - e is factor * f, and the roots of the factor are the places at which the word parts from f.
    """
    ahead, rest = vanishing, whole
    before, factor = Poly(p=code.p), Poly([1], p=code.p)
    while rest.degree >= len(code) - e:
        times, left = ahead.divided(rest)
        ahead, rest = rest, left
        before, factor = factor, before - times * factor
    if rest.degree - factor.degree >= code.degree:
        return None
    found, left = rest.divided(factor)
    return found if left.degree < 0 else None


def _near_poly(code, word, e):
    """The Poly within e of a word, None if there is none."""
    points = list(zip(code.places, word))
    # Many words have no fault at their first places, and this is done much sooner.
    guess = Poly.through(points[:code.degree], p=code.p)
    if len(parted(code, word, guess)) <= e:
        return guess
    return _mended_poly(code, _vanishing(code), _through_word(code, word), e)


def mended(code, word, e):
    """The Poly within e of a word."""
    check_e(code, e)
    poly = _near_poly(code, word, e)
    if poly is None:
        raise NotNear(e)
    return poly


def within(code, word, e):
    """Whether a word is within e."""
    check_e(code, e)
    return _near_poly(code, word, e) is not None


def _joined(one, other):
    """The ascending tuple of the indices that stand in one of two tuples or in both."""
    return tuple(sorted(set(one) | set(other)))


def together(code, words, e):
    """The pair (Polys, lot of places) of words that are together within e, None if they are not."""
    check_e(code, e)
    polys, lot = [], ()
    for word in words:
        # Each of the words is within e then, so its Poly can be no other one.
        poly = _near_poly(code, word, e)
        if poly is None:
            return None
        polys.append(poly)
        lot = _joined(lot, parted(code, word, poly))
        if len(lot) > e:
            return None
    return tuple(polys), lot


def near_worths(code, one, other, e, *carried):
    """The ascending tuple of the worths r with one + r * other and the carried words together within e."""
    check_e(code, e)
    check_counted(code.p)
    held = together(code, carried, e)
    if held is None:
        return ()
    vanishing = _vanishing(code)
    low, high = _through_word(code, one), _through_word(code, other)
    found = []
    for worth in range(code.p):
        poly = _mended_poly(code, vanishing, low + high.scaled(worth), e)
        if poly is None:
            continue
        word = combined([one, other], [1, worth], p=code.p)
        if len(_joined(held[1], parted(code, word, poly))) <= e:
            found.append(worth)
    return tuple(found)


def line_lot(code, one, other, e, *carried):
    """The ascending tuple of the worths in the line lot of two words with carried words."""
    check_e(code, e)
    check_counted(code.p)
    if together(code, [one, other, *carried], e) is not None:
        return ()
    return near_worths(code, one, other, e, *carried)


def in_line_lot(code, one, other, e, worth, *carried):
    """Whether a worth lies in the line lot of two words with carried words."""
    check_e(code, e)
    if together(code, [one, other, *carried], e) is not None:
        return False
    word = combined([one, other], [1, worth], p=code.p)
    return together(code, [word, *carried], e) is not None


def _mixed_ahead(code, base, words, coins, at):
    """The base with the words ahead of the one with the number at, each times its coin."""
    factors = [1] + list(coins[:at - 1])
    return combined([base] + list(words[:at - 1]), factors, p=code.p)


def mix_lot(code, base, words, coins, at, e):
    """The ascending tuple of the worths in the mix lot of the coin with the number at."""
    check_e(code, e)
    check_counted(code.p)
    carried = words[at:]
    return line_lot(code, _mixed_ahead(code, base, words, coins, at), words[at - 1], e, *carried)


def in_mix_lot(code, base, words, coins, at, e):
    """Whether the coin with the number at lies in its mix lot."""
    check_e(code, e)
    carried = words[at:]
    return in_line_lot(code, _mixed_ahead(code, base, words, coins, at), words[at - 1], e, coins[at - 1], *carried)
