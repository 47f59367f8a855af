import unittest

from shownrun.errors import UnknownName
from shownrun.primes import PRIMES, ROWS, fits, generator, inverse, is_number, power
from tests.values import FITTING, LISTED, SIZES, SOME_PRIMES, no_numbers, numbers

UNLISTED = (-193, -1, 0, 1, 2, 3, 5, 11, 17, 31, 64, 65, 97, 192, 194, 256, 258, 641, 768, 770, 7680, 7682, 12288,
            12290, 65537, 7340033, 998244352, 998244354, 2013265920, 2013265922, 9999999967)


class ConstantTests(unittest.TestCase):
    def test_primes_and_generators(self):
        self.assertEqual(PRIMES, ((193, 5), (257, 3), (769, 11), (7681, 17), (12289, 11), (998244353, 3),
                                  (2013265921, 31)))
        self.assertIsInstance(PRIMES, tuple)
        for pair in PRIMES:
            self.assertIsInstance(pair, tuple)

    def test_rows(self):
        self.assertEqual(ROWS, (4, 8, 16, 32, 64))
        self.assertIsInstance(ROWS, tuple)


class IsNumberTests(unittest.TestCase):
    def test_values_that_are_no_numbers(self):
        for value in no_numbers() * 2:
            self.assertIs(is_number(value, -10, 10), False)
            self.assertIs(is_number(value, 0, 1), False)
            self.assertIs(is_number(value, 4, 4), False)

    def test_at_and_beside_both_ends(self):
        for least, most in ((0, 60), (-5, 7), (4, 4), (-9999999999, 9999999999), (1, 2), (-9, -3)):
            for _ in range(2):
                self.assertIs(is_number(least - 1, least, most), False)
                self.assertIs(is_number(least, least, most), True)
                self.assertIs(is_number(most, least, most), True)
                self.assertIs(is_number(most + 1, least, most), False)
                self.assertIs(is_number((least + most) // 2, least, most), True)

    def test_no_number_lies_between_wrong_ends(self):
        for value in (-1, 0, 1):
            self.assertIs(is_number(value, 1, -1), False)
        self.assertIs(is_number(0, 0, -1), False)

    def test_great_numbers(self):
        self.assertIs(is_number(10 ** 12, 0, 10 ** 12), True)
        self.assertIs(is_number(10 ** 12 + 1, 0, 10 ** 12), False)
        self.assertIs(is_number(-10 ** 30, 0, 60), False)

    def test_by_name(self):
        self.assertIs(is_number(value=3, least=3, most=4), True)
        self.assertIs(is_number(most=4, value=5, least=3), False)
        self.assertIs(is_number(True, least=0, most=4), False)

    def test_true_and_one_are_told_apart_in_any_order(self):
        self.assertIs(is_number(1, 0, 1), True)
        self.assertIs(is_number(True, 0, 1), False)
        self.assertIs(is_number(0, 0, 1), True)
        self.assertIs(is_number(False, 0, 1), False)
        self.assertIs(is_number(1, 0, 1), True)


class FitsTests(unittest.TestCase):
    def test_each_listed_prime_with_each_size(self):
        for _ in range(2):
            for p in LISTED:
                for rows in SIZES:
                    self.assertIs(fits(p, rows), (p, rows) in FITTING, (p, rows))

    def test_sizes_beside_the_listed_ones(self):
        for p in LISTED:
            for rows in (-64, -4, -1, 0, 1, 2, 3, 5, 6, 7, 9, 12, 15, 17, 24, 31, 33, 48, 63, 65, 128, 256, 4096):
                self.assertIs(fits(p, rows), False, (p, rows))

    def test_primes_and_numbers_beside_the_listed_ones(self):
        for p in UNLISTED:
            for rows in SIZES + (0, 1, 2, 3):
                self.assertIs(fits(p, rows), False, (p, rows))

    def test_any_values(self):
        for value in no_numbers() + ["257", [257], (257, 3)]:
            for p in (193, 257, 12289, value):
                self.assertIs(fits(p, value), False)
            for rows in (4, 8, 64, value):
                self.assertIs(fits(value, rows), False)
        self.assertIs(fits(257, 4), True)

    def test_by_name(self):
        self.assertIs(fits(p=257, rows=8), True)
        self.assertIs(fits(rows=16, p=257), False)
        self.assertIs(fits(4, 257), False)


class GeneratorTests(unittest.TestCase):
    def test_of_listed_primes(self):
        for _ in range(2):
            for p, made in LISTED.items():
                self.assertEqual(generator(p), made)
                self.assertEqual(generator(p=p), made)

    def test_of_any_other_value(self):
        for value in list(UNLISTED) + no_numbers() + [[257], "257", (257, 3), 10 ** 12]:
            for _ in range(2):
                with self.assertRaises(UnknownName) as held:
                    generator(value)
                self.assertIs(held.exception.name, value)
        self.assertEqual(generator(257), 3)


class InverseTests(unittest.TestCase):
    def check(self, worth, p):
        made = inverse(worth, p)
        self.assertIs(type(made), int)
        self.assertTrue(0 <= made < p, (worth, p, made))
        self.assertEqual(made * worth % p, 1)
        return made

    def test_all_worths_of_small_primes(self):
        for p in (2, 3, 5, 7, 13, 193, 257):
            for worth in range(1, p):
                made = self.check(worth, p)
                self.assertEqual(inverse(worth + 5 * p, p), made)
                self.assertEqual(inverse(worth - 5 * p, p), made)

    def test_numbers_of_up_to_ten_digits_and_below_0(self):
        for p in SOME_PRIMES:
            passed = [n for n in numbers(p, 40) + [1, -1, 9999999999, -9999999999, p - 1, p + 1, 1 - p] if n % p]
            made = [self.check(n, p) for n in passed]
            self.assertEqual([inverse(worth=n, p=p) for n in passed], made)

    def test_the_same_worth_for_several_primes(self):
        for _ in range(2):
            self.assertEqual([inverse(5, p) for p in (2, 3, 7, 13, 193)], [1, 2, 3, 8, 116])

    def test_multiples_of_the_prime_have_none(self):
        for _ in range(2):
            for p in SOME_PRIMES:
                for worth in (0, p, -p, 2 * p, -3 * p):
                    with self.assertRaises(ZeroDivisionError):
                        inverse(worth, p)
                self.assertEqual(inverse(1, p), 1)


class PowerTests(unittest.TestCase):
    def test_small_counts(self):
        for p in SOME_PRIMES:
            for worth in [0, 1, 2, 3, -1, -2, p - 1, p, p + 1, 9999999999, -9999999999] + numbers(p, 5):
                told = 1
                for count in range(12):
                    made = power(worth, count, p)
                    self.assertIs(type(made), int)
                    self.assertEqual(made, told % p, (worth, count, p))
                    told = told * worth

    def test_greater_counts(self):
        for p in SOME_PRIMES:
            for count in (63, 64, 65, 100, 1023, 1024, p - 2, p - 1, p, 9999999999, 8589934592):
                for worth in numbers(count, 6) + [2, -2, 3]:
                    self.assertEqual(power(worth, count, p), pow(worth, count, p))

    def test_the_count_0(self):
        for p in SOME_PRIMES:
            for worth in (0, 1, p, -p, p - 1, -1, 9999999999):
                self.assertEqual(power(worth, 0, p), 1)

    def test_by_name_and_again(self):
        for _ in range(2):
            self.assertEqual(power(worth=3, count=4, p=257), 81)
            self.assertEqual(power(p=193, count=4, worth=3), 81)
            self.assertEqual(power(3, 5, p=193), 50)
            self.assertEqual(power(3, 5, 257), 243)
            self.assertEqual(power(3, 5, 7), 5)


if __name__ == "__main__":
    unittest.main()
