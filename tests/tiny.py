"""Codes so small that all their polynomials can be tried, and near words told by trying them."""

import itertools

from shownrun.codes import Code
from shownrun.polys import Poly
from tests.values import numbers

# Codes that are small enough to try all polynomials: places, degree and prime.
TINY = [Code([0, 1], 1, p=2), Code([1], 1, p=2), Code([2, 0, 1], 1, p=3), Code([1, 2, 3], 1, p=7),
        Code([0, 1, 2, 3, 4], 2, p=5), Code([4, 2, 1, 3], 1, p=5), Code([1, 2, 3, 4, 5, 6], 2, p=7),
        Code([6, 1, 5, 2, 4, 3, 0], 3, p=7), Code([1, 2, 3, 4, 5, 6, 0], 1, p=7), Code([3, 1], 2, p=5),
        Code(list(range(1, 9)), 2, p=11)]


def all_polys(code):
    """All polynomials of a degree below that of a code, as coefficients."""
    return itertools.product(range(code.p), repeat=code.degree)


def told_word(code, coefficients):
    return [sum(n * x ** k for k, n in enumerate(coefficients)) % code.p for x in code.places]


def told_near(code, word, e):
    """The pairs (Poly, places of parting) of all polynomials within e of a word."""
    made = []
    for coefficients in all_polys(code):
        worths = told_word(code, coefficients)
        lot = {at for at in range(len(word)) if (word[at] - worths[at]) % code.p}
        if len(lot) <= e:
            made.append((Poly(coefficients, p=code.p), lot))
    return made


def told_together(code, words, e):
    """What together returns, by trying all polynomials."""
    made = []
    for choice in itertools.product(*[told_near(code, word, e) for word in words]):
        lot = set().union(*[lot for _, lot in choice])
        if len(lot) <= e:
            made.append((tuple(poly for poly, _ in choice), tuple(sorted(lot))))
    assert len(made) <= 1
    return made[0] if made else None


def told_worths(code, one, other, e, *carried):
    return tuple(r for r in range(code.p)
                 if told_together(code, [[u + r * v for u, v in zip(one, other)], *carried], e))


def told_lot(code, one, other, e, *carried):
    return () if told_together(code, [one, other, *carried], e) else told_worths(code, one, other, e, *carried)


def most(code):
    """The greatest e of a code."""
    return max(e for e in range(len(code) + 1) if 2 * e < code.distance)


def some_words(code, seed, count):
    """Words with few faults and others, of numbers that need not be worths."""
    made = []
    for at in range(count):
        told = numbers(seed * 100 + at, 2 * len(code) + code.degree + 3)
        word = told_word(code, told[:code.degree])
        faults = told[-1] % (most(code) + 2) if told[-3] % 4 else len(code)
        for k in range(faults):
            word[told[code.degree + k] % len(code)] += told[code.degree + len(code) + k]
        made.append([n + told[-2] % 3 * code.p for n in word])
    return made
