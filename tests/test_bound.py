import unittest

from shownrun.bound import bound, lot_parts
from shownrun.errors import BadPrime
from tests.values import FITTING, LISTED, SIZES, no_numbers

LAYERS = {4: 2, 8: 3, 16: 4, 32: 5, 64: 6}


def told_parts(rows):
    """The parts of [39], by its words."""
    b = 4 * rows
    made = [("B", 3 * rows), ("z", 3 * rows)] + [("k" + str(i), rows) for i in range(1, 14)] + [("w", rows), ("c", 1)]
    made += [("r" + str(i), b + 1) for i in range(1, 37)]
    return made + [("f" + str(i), b // 2 ** (i + 1) + 1) for i in range(LAYERS[rows] + 1)]


def told_bound(p, rows, looks):
    b, n, c = 4 * rows, 16 * rows, 91 + LAYERS[rows]
    u = 20 * rows + 1 + 36 * (b + 1) + sum(b // 2 ** i + 1 for i in range(1, LAYERS[rows] + 2))
    return u * p ** (c - 1) * n ** looks + p ** c * (n - b - 2) ** looks


class LotPartTests(unittest.TestCase):
    def test_each_t(self):
        for rows in SIZES:
            told = told_parts(rows)
            for _ in range(2):
                self.assertEqual(lot_parts(rows), told)
            self.assertEqual(lot_parts(rows=rows), told)
            self.assertEqual(len(told), 16 + 1 + 36 + LAYERS[rows] + 1)
            self.assertEqual(told[-1], ("f" + str(LAYERS[rows]), 3))

    def test_the_list_is_new(self):
        made = lot_parts(4)
        self.assertEqual((type(made), type(made[0])), (list, tuple))
        made.clear()
        self.assertEqual(sum(part for _, part in lot_parts(4)), 710)

    def test_the_example(self):
        self.assertEqual([part for _, part in lot_parts(4)][-3:], [9, 5, 3])
        self.assertEqual(80 + 1 + 36 * 17 + 9 + 5 + 3, 710)


class BoundTests(unittest.TestCase):
    def test_each_prime_with_each_t(self):
        for p, rows in FITTING:
            for looks in range(61):
                told = told_bound(p, rows, looks)
                self.assertEqual(bound(p=p, rows=rows, looks=looks), told)
                # It is less than all rows of coins and looks only where it tells something.
                self.assertGreater(told, p ** (91 + LAYERS[rows]) * (16 * rows - 4 * rows - 2) ** looks)

    def test_all_numbers_of_looks(self):
        for looks in range(61):
            self.assertEqual(bound(looks=looks, rows=4, p=257), told_bound(257, 4, looks))
        self.assertEqual(bound(p=257, rows=4, looks=0), 710 * 257 ** 92 + 257 ** 93)
        self.assertEqual(bound(p=257, rows=4, looks=1), 710 * 257 ** 92 * 64 + 257 ** 93 * 46)

    def test_a_great_prime_and_many_looks_tell_much(self):
        p, rows, looks = 2013265921, 4, 60
        every = p ** 93 * 64 ** looks
        self.assertLess(bound(p=p, rows=rows, looks=looks) * 1000000, every)

    def test_primes_that_do_not_fit(self):
        pairs = [(p, rows) for p in LISTED for rows in SIZES + (0, 1, 2, 3, 5, 128, -4) if (p, rows) not in FITTING]
        pairs += [(65537, 4), (258, 4), (0, 4), (-257, 4)]
        pairs += [(value, 4) for value in no_numbers()] + [(257, value) for value in no_numbers()]
        for p, rows in pairs:
            for looks in (0, 60):
                with self.assertRaises(BadPrime) as caught:
                    bound(p=p, rows=rows, looks=looks)
                self.assertIs(caught.exception.p, p)
                self.assertIs(caught.exception.rows, rows)

    def test_by_name_only(self):
        with self.assertRaises(TypeError):
            bound(257, 4, 5)


if __name__ == "__main__":
    unittest.main()
