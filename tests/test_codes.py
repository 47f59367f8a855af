import unittest

from shownrun.codes import Code
from shownrun.errors import BadShape
from shownrun.polys import Poly
from tests.values import SOME_PRIMES, numbers


def paired_places(p, count):
    """So many places, the second half minus the first half."""
    first = list(range(1, count // 2 + 1))
    return first + [-x for x in first]


class FormTests(unittest.TestCase):
    def test_places_are_worths(self):
        for p in SOME_PRIMES[4:]:
            passed = [1, -2, p + 3, 3 * p, -p - 5, 9999999999 // p * p + 7]
            code = Code(passed, 2, p=p)
            self.assertIs(type(code.places), tuple)
            self.assertEqual(code.places, (1, p - 2, 3, 0, p - 5, 7))
            self.assertEqual(code.p, p)
            self.assertEqual(len(code), 6)

    def test_degree_and_distance(self):
        for count in (1, 2, 5, 12):
            for degree in range(1, count + 1):
                code = Code(list(range(count)), degree, p=13)
                self.assertEqual(code.degree, degree)
                self.assertEqual(code.distance, count - degree + 1)
                self.assertEqual(len(code), count)

    def test_by_name_and_with_tuples(self):
        code = Code(degree=2, places=(1, 2, 3), p=7)
        self.assertEqual((code.places, code.degree, code.p), ((1, 2, 3), 2, 7))
        self.assertEqual(code, Code([1, 2, 3], 2, p=7))

    def test_the_list_may_be_changed_behind(self):
        passed = [1, 2, -2, -1]
        code = Code(passed, 2, p=257)
        self.assertEqual(passed, [1, 2, -2, -1])
        passed[0] = 5
        passed.append(9)
        self.assertEqual(code.places, (1, 2, 255, 256))
        self.assertEqual(len(code), 4)

    def test_repr(self):
        self.assertEqual(repr(Code([1], 1, p=2)), "Code(1 places, degree 1)")
        self.assertEqual(repr(Code(list(range(64)), 8, p=257)), "Code(64 places, degree 8)")

    def test_equal(self):
        code = Code([1, 2, 3], 2, p=257)
        self.assertTrue(code == Code((258, 2, -254), 2, p=257))
        self.assertFalse(code != Code((258, 2, -254), 2, p=257))
        others = [Code([1, 2, 3], 1, p=257), Code([1, 2, 3], 2, p=193), Code([1, 2], 2, p=257),
                  Code([1, 3, 2], 2, p=257), Code([1, 2, 3, 4], 2, p=257), Code([1, 2, 4], 2, p=257)]
        for value in others + [None, True, 3, "Code(3 places, degree 2)", (1, 2, 3), [1, 2, 3], Poly([1, 2, 3], p=257)]:
            self.assertIs(code == value, False)
            self.assertIs(value == code, False)
            self.assertIs(code != value, True)


class WordTests(unittest.TestCase):
    def test_words(self):
        for p in SOME_PRIMES:
            places = [n for n in range(min(p, 20))]
            code = Code([x - 3 * p for x in places], 1, p=p)
            for coefficients in ([], [1], [-1, 2], numbers(p, 7), numbers(p, 25)):
                word = code.word(Poly(coefficients, p=p))
                self.assertIs(type(word), tuple)
                told = [sum(n * x ** power for power, n in enumerate(coefficients)) % p for x in places]
                self.assertEqual(word, tuple(told))
                self.assertEqual(code.word(poly=Poly(coefficients, p=p)), word)

    def test_words_of_one_code_are_apart(self):
        code = Code([1, 2, 3], 2, p=257)
        self.assertEqual(code.word(Poly([0, 1], p=257)), (1, 2, 3))
        self.assertEqual(code.word(Poly([0, 0, 1], p=257)), (1, 4, 9))
        self.assertEqual(code.word(Poly([0, 1], p=257)), (1, 2, 3))


class PairedTests(unittest.TestCase):
    def test_paired_codes(self):
        for p in (13, 193, 257, 9999999967):
            for count in (2, 4, 8, 12):
                for degree in range(2, count + 1, 2):
                    self.assertIs(Code(paired_places(p, count), degree, p=p).paired, True)

    def test_in_any_order_of_the_first_half(self):
        self.assertIs(Code([5, 1, 9, 8, 12, 4], 4, p=13).paired, True)
        self.assertIs(Code([3, 10], 2, p=13).paired, True)

    def test_an_odd_degree(self):
        for degree in (1, 3, 5, 7):
            self.assertIs(Code(paired_places(257, 8), degree, p=257).paired, False)

    def test_an_odd_number_of_places(self):
        self.assertIs(Code([1, 2, 3, -1, -2], 2, p=257).paired, False)
        self.assertIs(Code([1, 0, -1], 2, p=257).paired, False)
        self.assertIs(Code([1, -1, 0], 2, p=257).paired, False)
        self.assertIs(Code([1, 2, 0, -1, -2], 4, p=257).paired, False)
        self.assertIs(Code([0], 1, p=257).paired, False)

    def test_a_place_less(self):
        for at in range(8):
            places = paired_places(257, 8)
            del places[at]
            self.assertIs(Code(places, 2, p=257).paired, False)

    def test_two_places_less(self):
        self.assertIs(Code([1, 2, 3, -1, -2, -4], 2, p=257).paired, False)
        self.assertIs(Code([1, 2, 3, -2, -3, -4], 2, p=257).paired, False)

    def test_another_order(self):
        for places in ([1, 2, -2, -1], [1, -1, 2, -2], [1, 2, 3, -1, -3, -2], [1, 2, 3, 4, -4, -3, -2, -1],
                       [2, 1, -1, -2]):
            self.assertIs(Code(places, 2, p=257).paired, False)

    def test_places_that_are_no_pairs(self):
        self.assertIs(Code([1, 2, 3, 4], 2, p=257).paired, False)
        self.assertIs(Code([1, 2, -1, -3], 2, p=257).paired, False)
        self.assertIs(Code([0, 1], 2, p=2).paired, False)
        self.assertIs(Code([1, 2], 2, p=5).paired, False)
        self.assertIs(Code([1, 2, -1, -2], 2, p=193).paired, True)


class HalfTests(unittest.TestCase):
    def test_half(self):
        for p in (13, 193, 257, 9999999967):
            for count in (2, 4, 8, 12):
                for degree in range(2, count + 1, 2):
                    half = Code(paired_places(p, count), degree, p=p).half()
                    self.assertIsInstance(half, Code)
                    self.assertEqual(half.places, tuple(x * x % p for x in range(1, count // 2 + 1)))
                    self.assertEqual((half.degree, half.p), (degree // 2, p))

    def test_half_of_a_half(self):
        code = Code([1, 4, 16, 64, -1, -4, -16, -64], 4, p=257)
        self.assertEqual(code.half(), Code([1, 16, 256, 241], 2, p=257))
        self.assertEqual(code.half().half(), Code([1, 256], 1, p=257))
        self.assertEqual(code.places, (1, 4, 16, 64, 256, 253, 241, 193))

    def test_refused_unless_paired(self):
        for places, degree in (([1, 2, 3], 2), ([1, 2, -1, -2], 3), ([1, 2, -2, -1], 2), ([1, 2, 3, 4, 5, 6], 2),
                               ([7], 1), ([1, 2, 3, -1, -2], 2)):
            for _ in range(2):
                with self.assertRaises(BadShape) as held:
                    Code(places, degree, p=257).half()
                self.assertEqual((held.exception.what, held.exception.count), ("places", len(places)))


if __name__ == "__main__":
    unittest.main()
