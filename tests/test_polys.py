import unittest

from shownrun.codes import Code
from shownrun.errors import UnknownName
from shownrun.polys import Poly
from tests.values import SOME_PRIMES, Thing, numbers


def trimmed(coefficients, p):
    """The coefficients as the document tells a polynomial, worked out once more."""
    made = [n % p for n in coefficients]
    while made and made[-1] == 0:
        made = made[:-1]
    return tuple(made)


def worth_at(coefficients, x, p):
    return sum(n * x ** power for power, n in enumerate(coefficients)) % p


def some_polys(p):
    """Lists of coefficients: short and long ones, with zeros at the ends and within."""
    return [[], [0], [1], [-1], [p], [0, 0, 0], [5], [0, 1], [1, 1], [-3, 0, 2], [1, 0, 0, p], [2, p, -p, 2 * p, 0],
            [0, 0, 1, 0], [9999999999, -9999999999], numbers(p, 4), numbers(p + 1, 9), numbers(p + 2, 9) + [0, 0],
            [p - 1] * 6, [1] * 12]


class PolyCase(unittest.TestCase):
    def check(self, poly, coefficients, p):
        self.assertIsInstance(poly, Poly)
        self.assertIs(type(poly.coefficients), tuple)
        self.assertEqual(poly.coefficients, trimmed(coefficients, p))
        self.assertEqual(poly.p, p)
        self.assertEqual(poly.degree, len(trimmed(coefficients, p)) - 1)


class FormTests(PolyCase):
    def test_coefficients_and_degree(self):
        for p in SOME_PRIMES:
            for coefficients in some_polys(p):
                self.check(Poly(coefficients, p=p), coefficients, p)
                self.check(Poly(tuple(coefficients), p=p), coefficients, p)
                self.check(Poly(coefficients=coefficients, p=p), coefficients, p)

    def test_the_polynomial_0(self):
        for p in SOME_PRIMES:
            for poly in (Poly(p=p), Poly((), p=p), Poly([], p=p), Poly([0], p=p), Poly([p, -p, 0], p=p)):
                self.check(poly, [], p)
                self.assertEqual(poly.coefficients, ())
                self.assertEqual(poly.degree, -1)
                self.assertEqual([poly(x) for x in (0, 1, -1, p, 9999999999)], [0] * 5)

    def test_written_out(self):
        self.assertEqual(Poly([-1, 258, 5, 257, 514], p=257).coefficients, (256, 1, 5))
        self.assertEqual(Poly([3, 2, 2], p=2).coefficients, (1,))
        self.assertEqual(Poly([3, 2, 3], p=2).coefficients, (1, 0, 1))

    def test_what_was_passed_stays_and_is_copied(self):
        passed = [-1, 258, 5, 0, 0]
        poly = Poly(passed, p=257)
        self.assertEqual(passed, [-1, 258, 5, 0, 0])
        passed[0] = 7
        passed.append(9)
        self.assertEqual(poly.coefficients, (256, 1, 5))
        self.assertEqual(poly(1), 5)

    def test_repr(self):
        for p in (2, 257, 9999999967):
            self.assertEqual(repr(Poly(p=p)), "Poly(0 coefficients)")
            self.assertEqual(repr(Poly([1], p=p)), "Poly(1 coefficients)")
            self.assertEqual(repr(Poly([0, 0, 1, 0], p=p)), "Poly(3 coefficients)")


class WorthTests(PolyCase):
    def test_worths(self):
        for p in SOME_PRIMES:
            for coefficients in some_polys(p):
                poly = Poly(coefficients, p=p)
                for x in [0, 1, 2, -1, -2, p - 1, p, p + 1, 9999999999, -9999999999] + numbers(7, 3):
                    made = poly(x)
                    self.assertIs(type(made), int)
                    self.assertEqual(made, worth_at(coefficients, x, p))
                    self.assertEqual(poly(x=x), made)

    def test_asked_again_in_another_order(self):
        one, other = Poly([1, 2, 3], p=257), Poly([1, 2, 3], p=193)
        asked = [(one, 9), (other, 9), (one, 0), (other, -9), (one, 9), (one, -9), (other, 9), (other, 266)]
        self.assertEqual([poly(x) for poly, x in asked], [5, 69, 1, 33, 5, 226, 69, 115])


class ArithmeticTests(PolyCase):
    def test_sums_and_differences(self):
        for p in SOME_PRIMES:
            lists = some_polys(p)
            for one in lists:
                for other in lists:
                    size = max(len(one), len(other))
                    pairs = list(zip(one + [0] * (size - len(one)), other + [0] * (size - len(other))))
                    low, high = Poly(one, p=p), Poly(other, p=p)
                    self.check(low + high, [a + b for a, b in pairs], p)
                    self.check(low - high, [a - b for a, b in pairs], p)
                    self.check(low, one, p)
                    self.check(high, other, p)

    def test_products(self):
        for p in SOME_PRIMES:
            lists = some_polys(p)
            for one in lists:
                for other in lists:
                    made = [0] * (len(one) + len(other))
                    for k, a in enumerate(one):
                        for m, b in enumerate(other):
                            made[k + m] += a * b
                    low, high = Poly(one, p=p), Poly(other, p=p)
                    self.check(low * high, made, p)
                    self.check(low, one, p)

    def test_a_difference_with_itself_is_0(self):
        for p in SOME_PRIMES:
            for coefficients in some_polys(p):
                poly = Poly(coefficients, p=p)
                self.check(poly - poly, [], p)
                self.check(poly + poly.scaled(-1), [], p)

    def test_scaled(self):
        for p in SOME_PRIMES:
            for coefficients in some_polys(p):
                poly = Poly(coefficients, p=p)
                for worth in (0, 1, -1, 2, p, p + 3, 9999999999, -9999999999):
                    self.check(poly.scaled(worth), [worth * n for n in coefficients], p)
                    self.check(poly.scaled(worth=worth), [worth * n for n in coefficients], p)
                    self.check(poly, coefficients, p)

    def test_stepped(self):
        for p in SOME_PRIMES:
            for coefficients in some_polys(p):
                poly = Poly(coefficients, p=p)
                for worth in (0, 1, -1, 2, p, p + 3, 9999999999, -9999999999):
                    made = poly.stepped(worth)
                    self.check(made, [n * worth ** power for power, n in enumerate(coefficients)], p)
                    self.assertEqual(poly.stepped(worth=worth), made)
                    for x in (0, 1, 5, -7, 9999999998):
                        self.assertEqual(made(x), poly(worth * x))


class DividedTests(PolyCase):
    def check_divided(self, one, other):
        made = one.divided(other)
        self.assertIs(type(made), tuple)
        whole, rest = made
        self.assertLess(rest.degree, other.degree)
        self.assertEqual(whole * other + rest, one)
        self.assertEqual((whole.p, rest.p), (one.p, one.p))
        self.assertEqual(one.divided(other=other), made)
        return made

    def test_whole_and_rest(self):
        for p in SOME_PRIMES:
            polys = [Poly(coefficients, p=p) for coefficients in some_polys(p)]
            for one in polys:
                for other in polys:
                    if other.degree >= 0:
                        self.check_divided(one, other)

    def test_written_out(self):
        whole, rest = self.check_divided(Poly([1, 2, 3, 4], p=257), Poly([1, 0, 2], p=257))
        self.assertEqual((whole.coefficients, rest.coefficients), ((130, 2), (128,)))

    def test_by_itself_a_greater_one_and_a_constant(self):
        for p in SOME_PRIMES:
            poly = Poly([1, 0, 1, 1], p=p)
            self.assertEqual(self.check_divided(poly, poly), (Poly([1], p=p), Poly(p=p)))
            greater = Poly([0, 0, 0, 0, 1], p=p)
            self.assertEqual(self.check_divided(poly, greater), (Poly(p=p), poly))
            self.assertEqual(self.check_divided(Poly(p=p), poly), (Poly(p=p), Poly(p=p)))
            whole, rest = self.check_divided(poly, Poly([p - 1], p=p))
            self.assertEqual((whole, rest), (poly.scaled(-1), Poly(p=p)))

    def test_a_product_by_its_factor(self):
        for p in SOME_PRIMES:
            one, other = Poly([3, 1, -5, 1], p=p), Poly([-1, 4, 0, 0, 1], p=p)
            self.assertEqual(self.check_divided(one * other, other), (one, Poly(p=p)))
            self.assertEqual(self.check_divided(one * other + Poly([1], p=p), one), (other, Poly([1], p=p)))

    def test_by_0(self):
        for p in SOME_PRIMES:
            for coefficients in some_polys(p):
                for nothing in (Poly(p=p), Poly([0, p], p=p)):
                    with self.assertRaises(ZeroDivisionError):
                        Poly(coefficients, p=p).divided(nothing)

    def test_operands_stay(self):
        one, other = Poly([1, 2, 3, 4], p=257), Poly([1, 0, 2], p=257)
        one.divided(other)
        self.assertEqual((one.coefficients, other.coefficients), ((1, 2, 3, 4), (1, 0, 2)))


class ThroughTests(PolyCase):
    def test_no_points(self):
        for p in SOME_PRIMES:
            self.check(Poly.through([], p=p), [], p)
            self.check(Poly.through((), p=p), [], p)

    def test_one_point(self):
        for p in SOME_PRIMES:
            for x in (0, 1, -1, p, 9999999999):
                for worth in (0, 1, -1, p, -p, 9999999999, -9999999999):
                    self.check(Poly.through([(x, worth)], p=p), [worth], p)

    def test_back_from_the_worths(self):
        for p in SOME_PRIMES:
            for coefficients in some_polys(p):
                for count in range(max(1, len(trimmed(coefficients, p))), min(p, 14) + 1):
                    poly = Poly(coefficients, p=p)
                    points = [(x * (p + 1) - 3 * p, poly(x) + p * (x - 5)) for x in range(count)]
                    self.assertEqual(Poly.through(points, p=p), poly)

    def test_goes_through_points(self):
        for p in SOME_PRIMES[3:]:
            firsts = []
            for n in numbers(p, 9):
                if n % p not in [x % p for x in firsts]:
                    firsts.append(n)
            points = list(zip(firsts, numbers(p + 1, len(firsts))))
            poly = Poly.through(points, p=p)
            self.assertLess(poly.degree, len(points))
            for x, worth in points:
                self.assertEqual(poly(x), worth % p)
            self.assertEqual(Poly.through(points=points[::-1], p=p), poly)

    def test_written_out(self):
        self.assertEqual(Poly.through([(1, 3), (2, 5), (-1, -1)], p=257).coefficients, (1, 2))
        self.assertEqual(Poly.through([(0, 0), (1, 0)], p=2).coefficients, ())
        self.assertEqual(Poly.through([(0, 1), (1, 0)], p=2).coefficients, (1, 1))

    def test_many_points(self):
        p = 2013265921
        poly = Poly(numbers(5, 64), p=p)
        self.assertEqual(Poly.through([(3 * x, poly(3 * x)) for x in range(64)], p=p), poly)

    def test_lists_as_points_stay(self):
        points = [[1, -3], [258 * 2, 300], [5, 5]]
        poly = Poly.through(points, p=257)
        self.assertEqual(points, [[1, -3], [516, 300], [5, 5]])
        points[0][1] = 8
        points.pop()
        self.assertEqual([poly(1), poly(2), poly(5)], [254, 43, 5])


class EqualTests(PolyCase):
    def test_equal_ones(self):
        for p in SOME_PRIMES:
            for coefficients in some_polys(p):
                other = [n + 3 * p for n in coefficients] + [0, -p]
                self.assertTrue(Poly(coefficients, p=p) == Poly(other, p=p))
                self.assertFalse(Poly(coefficients, p=p) != Poly(other, p=p))

    def test_unlike_ones(self):
        for p in SOME_PRIMES:
            polys = [Poly(row, p=p) for row in ([], [1], [0, 1], [1, 1], [0, 0, 1], [1, 0, 1])]
            for k, one in enumerate(polys):
                for m, other in enumerate(polys):
                    self.assertIs(one == other, k == m)
                    self.assertIs(one != other, k != m)

    def test_other_primes(self):
        for coefficients in ([], [1], [0, 1]):
            self.assertFalse(Poly(coefficients, p=193) == Poly(coefficients, p=257))
            self.assertTrue(Poly(coefficients, p=193) != Poly(coefficients, p=257))

    def test_values_of_other_classes(self):
        poly, nothing = Poly([4], p=257), Poly(p=257)
        for value in [None, True, 0, 4, "4", (), [], (4,), [4], Thing(), UnknownName(4), Code([1], 1, p=257)]:
            for one in (poly, nothing):
                self.assertIs(one == value, False)
                self.assertIs(value == one, False)
                self.assertIs(one != value, True)


if __name__ == "__main__":
    unittest.main()
