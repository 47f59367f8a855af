import unittest

from shownrun.codes import Code
from shownrun.errors import BadPrime, BadShape, UnknownName
from shownrun.places import Places
from shownrun.polys import Poly
from tests.values import FITTING, LISTED, SIZES, Thing, no_lists, no_numbers, numbers


def roots(p, rows):
    """g, l and h, worked out once more."""
    root = pow(LISTED[p], (p - 1) // (16 * rows), p)
    return LISTED[p], root, pow(root, 16, p)


def layers_of(rows):
    return {4: 2, 8: 3, 16: 4, 32: 5, 64: 6}[rows]


class PropertyTests(unittest.TestCase):
    def test_all_properties(self):
        for p, rows in FITTING:
            places = Places(p, rows)
            self.assertEqual((places.p, places.rows), (p, rows))
            self.assertEqual((places.size, places.degree, places.bad), (16 * rows, 2 * rows, 4 * rows))
            self.assertEqual(places.layers, layers_of(rows))
            self.assertEqual((places.root, places.row_root), roots(p, rows)[1:])

    def test_the_example(self):
        places = Places(p=257, rows=4)
        self.assertEqual((places.root, places.row_root), (81, 241))
        self.assertEqual([places.place(at) for at in range(4)], [3, 243, 151, 152])
        self.assertEqual((places.size, places.degree, places.bad, places.layers), (64, 8, 16, 2))
        layers = [places.layer(at) for at in range(4)]
        self.assertEqual([len(layer) for layer in layers], [64, 32, 16, 8])
        self.assertEqual([layer.degree for layer in layers], [8, 4, 2, 1])
        self.assertEqual([places.near(at) for at in range(4)], [16, 8, 4, 2])

    def test_equal_and_repr(self):
        made = [Places(p, rows) for p, rows in FITTING]
        for one, pair in zip(made, FITTING):
            self.assertEqual(repr(one), "Places({}, {})".format(*pair))
            for other, another in zip([Places(*row) for row in FITTING], FITTING):
                self.assertIs(one == other, pair == another)
                self.assertIs(one != other, pair != another)
        for value in no_lists() + no_numbers() + [(257, 4), "Places(257, 4)"]:
            self.assertIs(Places(257, 4) == value, False)
            self.assertIs(value == Places(257, 4), False)


class RefusedTests(unittest.TestCase):
    def refused(self, p, rows):
        for made in ((lambda: Places(p, rows)), (lambda: Places(rows=rows, p=p))):
            with self.assertRaises(BadPrime) as held:
                made()
            self.assertIs(held.exception.p, p)
            self.assertIs(held.exception.rows, rows)

    def test_listed_primes_that_do_not_fit(self):
        for p in LISTED:
            for rows in SIZES + (0, 1, 2, 3, 5, 12, -4, 128):
                if (p, rows) not in FITTING:
                    self.refused(p, rows)

    def test_other_values(self):
        for value in no_numbers() + [0, 1, 5, 97, 65537, -257, 9999999967]:
            self.refused(value, 4)
            self.refused(257, value)
            self.refused(value, value)


class PlaceTests(unittest.TestCase):
    def test_places_and_their_numbers(self):
        for p, rows in FITTING:
            places, size = Places(p, rows), 16 * rows
            first, root, _ = roots(p, rows)
            told, worth = [], first
            for _ in range(size):
                told.append(worth)
                worth = worth * root % p
            self.assertEqual([places.place(at) for at in range(size)], told)
            self.assertEqual(places.place(at=3), told[3])
            for at in [-1, -size, -size - 1, size, size + 5, 9999999999, -9999999999] + numbers(p, 10):
                self.assertEqual(places.place(at), told[at % size])
            self.assertEqual(len(set(told)), size)

    def test_all_places(self):
        for p, rows in FITTING:
            places = Places(p, rows)
            told = [places.place(at) for at in range(16 * rows)]
            self.assertEqual(list(places.all_places()), told)
            one, other = places.all_places(), places.all_places()
            self.assertIs(iter(one), one)
            self.assertEqual([next(one), next(one), next(other), next(one)], [told[0], told[1], told[0], told[2]])
            self.assertEqual(list(other), told[1:])
            self.assertEqual(list(places.all_places()), told)

    def test_row_places(self):
        for p, rows in FITTING:
            places, step = Places(p, rows), roots(p, rows)[2]
            told = [pow(step, at, p) for at in range(rows)]
            self.assertEqual([places.row_place(at) for at in range(rows)], told)
            self.assertEqual(places.row_place(at=1), step)
            for at in [-1, -rows, rows, rows + 1, 16 * rows, 9999999999, -9999999999]:
                self.assertEqual(places.row_place(at), told[at % rows])
            self.assertEqual(len(set(told)), rows)

    def test_facts(self):
        for p, rows in FITTING:
            places, size = Places(p, rows), 16 * rows
            for at in range(0, size, 5):
                self.assertEqual(places.row_root * places.place(at) % p, places.place(at + 16))
                self.assertEqual(places.place(at + size // 2), p - places.place(at))
            every = list(places.all_places())
            self.assertFalse(set(every) & {places.row_place(at) for at in range(rows)})


class LayerTests(unittest.TestCase):
    def test_each_layer(self):
        for p, rows in FITTING:
            places, told = Places(p, rows), list(Places(p, rows).all_places())
            for at in range(layers_of(rows) + 2):
                layer = places.layer(at)
                self.assertIsInstance(layer, Code)
                self.assertEqual(layer.places, tuple(told))
                self.assertEqual((layer.degree, layer.p), (2 * rows // 2 ** at, p))
                self.assertEqual(places.layer(at=at), layer)
                self.assertEqual(places.near(at), 4 * rows // 2 ** at)
                self.assertEqual(places.near(at=at), 4 * rows // 2 ** at)
                told = [x * x % p for x in told[:len(told) // 2]]
            self.assertEqual(len(layer), 8)
            self.assertEqual((layer.degree, places.near(at)), (1, 2))
            self.assertEqual(places.layer(0).places, tuple(places.all_places()))

    def test_each_layer_is_the_half_of_the_one_ahead(self):
        for p, rows in FITTING[:7]:
            places = Places(p, rows)
            for at in range(layers_of(rows) + 1):
                self.assertTrue(places.layer(at).paired)
                self.assertEqual(places.layer(at).half(), places.layer(at + 1))

    def test_refused(self):
        for p, rows in FITTING:
            places, last = Places(p, rows), layers_of(rows) + 1
            for value in no_numbers() + [-1, last + 1, last + 2, 64, 9999999999, -9999999999]:
                with self.assertRaises(BadShape) as held:
                    places.layer(value)
                self.assertEqual(held.exception.what, "layer")
                self.assertIs(held.exception.count, value)
            self.assertEqual(len(places.layer(last)), 8)


class DivisorTests(unittest.TestCase):
    def test_the_four_kinds(self):
        for p, rows in FITTING:
            places = Places(p, rows)
            last = pow(roots(p, rows)[2], rows - 1, p)
            for at in [0, 1, 2, 5, 16, 16 * rows - 1, 8 * rows, 16 * rows, -1, -20, 9999999999, -9999999999]:
                x = places.place(at)
                every = (pow(x, rows, p) - 1) % p
                self.assertEqual(places.divisor("all", at), every)
                self.assertEqual(places.divisor("step", at), every * pow(x - last, p - 2, p) % p)
                self.assertEqual(places.divisor("first", at), (x - 1) % p)
                self.assertEqual(places.divisor("last", at), (x - last) % p)
                self.assertEqual(places.divisor(kind="first", at=at), (x - 1) % p)

    def test_none_is_0_at_a_place(self):
        for p, rows in FITTING[:6]:
            places = Places(p, rows)
            for kind in ("all", "step", "first", "last"):
                self.assertTrue(all(0 < places.divisor(kind, at) < p for at in range(16 * rows)))

    def test_unknown_kinds(self):
        places = Places(257, 4)
        others = [value for value in no_numbers() if value != "all"]
        for value in others + [0, 1, 257, "All", "all ", "steps", "firs", "lasts", "first last", ["all"], ("first",)]:
            with self.assertRaises(UnknownName) as held:
                places.divisor(value, 3)
            self.assertIs(held.exception.name, value)


class StretchTests(unittest.TestCase):
    def columns(self, p, rows):
        made = [[0] * rows, [5] * rows, [-1] * rows, [p] * rows, list(range(rows)), numbers(p, rows),
                [9999999999] * (rows - 1) + [-9999999999]]
        for at in (0, 1, rows - 1):
            made.append([0] * at + [1] + [0] * (rows - at - 1))
            made.append([0] * at + [-9999999999] + [0] * (rows - at - 1))
        return made

    def test_there_and_back(self):
        for p, rows in FITTING[:9]:
            places = Places(p, rows)
            for column in self.columns(p, rows):
                passed = list(column)
                poly = places.stretched_poly(passed)
                word = places.stretched(passed)
                self.assertEqual(passed, column)
                self.assertIsInstance(poly, Poly)
                self.assertLess(poly.degree, rows)
                self.assertEqual(poly.p, p)
                self.assertEqual([poly(places.row_place(at)) for at in range(rows)], [n % p for n in column])
                self.assertIs(type(word), tuple)
                self.assertEqual(word, tuple(poly(x) for x in places.all_places()))
                self.assertEqual(places.column(poly), tuple(n % p for n in column))
                self.assertIs(type(places.column(poly=poly)), tuple)
                self.assertEqual(places.stretched(column=tuple(passed)), word)
                self.assertEqual(places.stretched_poly(column=tuple(passed)), poly)

    def test_great_ones(self):
        for p, rows in FITTING[9:]:
            places = Places(p, rows)
            column = numbers(p, rows)
            poly = places.stretched_poly(column)
            self.assertLess(poly.degree, rows)
            self.assertEqual(places.column(poly), tuple(n % p for n in column))
            word = places.stretched(column)
            self.assertEqual(len(word), 16 * rows)
            for at in (0, 1, 7, 16 * rows - 1):
                self.assertEqual(word[at], poly(places.place(at)))

    def test_the_example(self):
        word = Places(257, 4).stretched([0, 1, 2, 3])
        self.assertEqual(word[:3], (174, 131, 225))
        self.assertEqual(len(word), 64)

    def test_constant_columns(self):
        for p, rows in FITTING:
            places = Places(p, rows)
            self.assertEqual(places.stretched_poly([-3] * rows).coefficients, (p - 3,))
            self.assertEqual(places.stretched_poly([p] * rows).coefficients, ())
            self.assertEqual(places.stretched([7] * rows), (7,) * (16 * rows))

    def test_columns_of_polynomials_of_any_degree(self):
        for p, rows in FITTING[:9]:
            places = Places(p, rows)
            for count in (0, 1, rows - 1, rows, rows + 1, 2 * rows, 3 * rows + 2):
                coefficients = numbers(count, count)
                told = [sum(n * pow(places.row_root, at * power, p) for power, n in enumerate(coefficients)) % p
                        for at in range(rows)]
                column = places.column(Poly(coefficients, p=p))
                self.assertIs(type(column), tuple)
                self.assertEqual(column, tuple(told))
            wrapped = Poly([0] * rows + [1], p=p)
            self.assertEqual(places.column(wrapped), (1,) * rows)

    def test_nothing_of_an_earlier_answer_is_left(self):
        one, other = Places(257, 4), Places(193, 4)
        column = [1, 2, 3, 4]
        asked = [(one, one.stretched(column)), (other, other.stretched(column))]
        column[0] = 5
        self.assertNotEqual(one.stretched(column), asked[0][1])
        column[0] = 1
        for places, word in asked:
            self.assertEqual(places.stretched(column), word)
        self.assertNotEqual(asked[0][1], asked[1][1])
        self.assertFalse(one == Thing())


if __name__ == "__main__":
    unittest.main()
