"""The places of a prime and a number of rows, and the stretching of columns."""

from shownrun.codes import Code
from shownrun.errors import BadPrime, BadShape, UnknownName
from shownrun.polys import Poly
from shownrun.primes import fits, generator, inverse, is_number, power


def _powers(first, factor, count, p):
    """So many worths, each the factor times the one ahead of it."""
    made, worth = [], first
    for _ in range(count):
        made.append(worth)
        worth = worth * factor % p
    return tuple(made)


class Places:
    """The places x_0 to x_(N - 1), their layers, and the places of the rows."""

    def __init__(self, p, rows):
        if not fits(p, rows):
            raise BadPrime(p, rows)
        self.p = p
        self.rows = rows
        first = generator(p)
        self._root = power(first, (p - 1) // (16 * rows), p)
        self._row_root = power(self._root, 16, p)
        self._worths = _powers(first, self._root, 16 * rows, p)
        self._row_worths = _powers(1, self._row_root, rows, p)

    @property
    def size(self):
        return 16 * self.rows

    @property
    def degree(self):
        return 2 * self.rows

    @property
    def bad(self):
        return 4 * self.rows

    @property
    def layers(self):
        return self.rows.bit_length() - 1

    @property
    def root(self):
        return self._root

    @property
    def row_root(self):
        return self._row_root

    def place(self, at):
        """The worth of a place; its number is read modulo N."""
        return self._worths[at % self.size]

    def row_place(self, at):
        """The place of a row; the powers of h come again behind T of them."""
        return self._row_worths[at % self.rows]

    def all_places(self):
        """All places, one behind another."""
        for worth in self._worths:
            yield worth

    def layer(self, at):
        """The Code of a layer."""
        if not is_number(at, 0, self.layers + 1):
            raise BadShape("layer", at)
        worths = self._worths[:self.size >> at]
        for _ in range(at):
            worths = [x * x % self.p for x in worths]
        return Code(worths, self.degree >> at, p=self.p)

    def near(self, at):
        """The number of places b_i of a layer."""
        return self.bad >> at

    def stretched_poly(self, column):
        """The polynomial of a degree below T that has the worths of a column at the places of the rows."""
        return Poly.through(list(zip(self._row_worths, column)), p=self.p)

    def stretched(self, column):
        """The word of a column."""
        poly = self.stretched_poly(column)
        return tuple([poly(x) for x in self._worths])

    def column(self, poly):
        """The worths of a polynomial at the places of the rows."""
        return tuple([poly(x) for x in self._row_worths])

    def divisor(self, kind, at):
        """The divisor of a kind at a place."""
        if kind not in ("all", "step", "first", "last"):
            raise UnknownName(kind)
        x = self.place(at)
        if kind == "first":
            return (x - 1) % self.p
        last = x - self._row_worths[-1]
        if kind == "last":
            return last % self.p
        every = power(x, self.rows, self.p) - 1
        return every % self.p if kind == "all" else every * inverse(last, self.p) % self.p

    def __eq__(self, other):
        return isinstance(other, Places) and self.p == other.p and self.rows == other.rows

    def __repr__(self):
        return f"Places({self.p}, {self.rows})"
