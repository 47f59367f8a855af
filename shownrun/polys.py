"""Polynomials with worths as coefficients."""

from shownrun.primes import inverse
from shownrun.shapes import worths_of


def _trimmed(worths):
    """The worths without the zeros at the end."""
    size = len(worths)
    while size > 0 and worths[size - 1] == 0:
        size -= 1
    return worths[:size]


def _padded(worths, size):
    return list(worths) + [0] * (size - len(worths))


def _added(one, other, sign):
    """The coefficients of one plus sign times other."""
    size = max(len(one), len(other))
    return [low + sign * high for low, high in zip(_padded(one, size), _padded(other, size))]


def _multiplied(one, other):
    made = [0] * (len(one) + len(other))
    for k, low in enumerate(one):
        for m, high in enumerate(other):
            made[k + m] = made[k + m] + low * high
    return made


def _worth_at(coefficients, x, p):
    total = 0
    for worth in reversed(coefficients):
        total = (total * x + worth) % p
    return total


def with_roots(roots, p):
    """The coefficients of the product of X - root over all roots."""
    made = [1]
    for root in roots:
        made = [(low - root * high) % p for low, high in zip([0] + made, made + [0])]
    return made


def _without_root(coefficients, root, p):
    """The coefficients divided by X - root, for a root of theirs."""
    made, carried = [], 0
    for worth in reversed(coefficients[1:]):
        carried = (carried * root + worth) % p
        made.append(carried)
    return made[::-1]


class Poly:
    """A polynomial, told by its coefficients, the one of the power 0 first."""

    def __init__(self, coefficients=(), *, p):
        self.coefficients = _trimmed(worths_of(coefficients, p))
        self.p = p

    @staticmethod
    def through(points, *, p):
        """The polynomial of a degree below the number of points that goes through them."""
        roots = [x % p for x, _ in points]
        product = with_roots(roots, p)
        total = [0] * len(roots)
        for root, (_, worth) in zip(roots, points):
            part = _without_root(product, root, p)
            factor = worth * inverse(_worth_at(part, root, p), p)
            total = [(low + factor * high) % p for low, high in zip(total, part)]
        return Poly(total, p=p)

    @property
    def degree(self):
        return len(self.coefficients) - 1

    def __call__(self, x):
        return _worth_at(self.coefficients, x, self.p)

    def __add__(self, other):
        return Poly(_added(self.coefficients, other.coefficients, 1), p=self.p)

    def __sub__(self, other):
        return Poly(_added(self.coefficients, other.coefficients, -1), p=self.p)

    def __mul__(self, other):
        return Poly(_multiplied(self.coefficients, other.coefficients), p=self.p)

    def scaled(self, worth):
        """Each coefficient times the worth."""
        return Poly([worth * coefficient for coefficient in self.coefficients], p=self.p)

    def stepped(self, worth):
        """The polynomial whose worth at x is that of this one at worth * x."""
        made, factor = [], 1
        for coefficient in self.coefficients:
            made.append(coefficient * factor)
            factor = factor * worth % self.p
        return Poly(made, p=self.p)

    def divided(self, other):
        """The pair (whole, rest), the rest of a lower degree than the other."""
        if not other.coefficients:
            raise ZeroDivisionError("the polynomial 0 divides nothing")
        lead = inverse(other.coefficients[-1], self.p)
        whole, rest = [], list(self.coefficients)
        while len(rest) >= len(other.coefficients):
            factor = rest[-1] * lead % self.p
            whole.append(factor)
            base = len(rest) - len(other.coefficients)
            for k, worth in enumerate(other.coefficients):
                rest[base + k] = (rest[base + k] - factor * worth) % self.p
            rest.pop()
        return Poly(whole[::-1], p=self.p), Poly(rest, p=self.p)

    def __eq__(self, other):
        return isinstance(other, Poly) and self.p == other.p and self.coefficients == other.coefficients

    def __repr__(self):
        return f"Poly({len(self.coefficients)} coefficients)"
