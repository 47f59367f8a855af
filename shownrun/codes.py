"""Codes: places, and a bound for the degree of the polynomials that are told by their worths there."""

from shownrun.errors import BadShape
from shownrun.shapes import worths_of


class Code:
    """A list of unlike places, and a bound that the degrees stay below."""

    def __init__(self, places, degree, *, p):
        self.places = worths_of(places, p)
        self.p = p
        self._degree = degree

    @property
    def degree(self):
        return self._degree

    @property
    def distance(self):
        return len(self.places) - self._degree + 1

    @property
    def paired(self):
        """Whether the second half of the places is minus the first half, and both numbers are even."""
        if len(self.places) % 2 == 1 or self._degree % 2 == 1:
            return False
        middle = len(self.places) // 2
        return self.places[middle:] == worths_of([-x for x in self.places[:middle]], self.p)

    def word(self, poly):
        """The worths of a Poly at all places."""
        return tuple([poly(x) for x in self.places])

    def half(self):
        """The code of the squares of the first half of the places."""
        if not self.paired:
            raise BadShape("places", len(self.places))
        first = self.places[:len(self.places) // 2]
        return Code([x * x for x in first], self._degree // 2, p=self.p)

    def __len__(self):
        return len(self.places)

    def __eq__(self, other):
        return (isinstance(other, Code) and self.p == other.p and self.places == other.places
                and self._degree == other.degree)

    def __repr__(self):
        return f"Code({len(self.places)} places, degree {self._degree})"
