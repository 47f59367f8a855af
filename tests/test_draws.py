import unittest

from shownrun.draws import Draws, coin_names
from shownrun.errors import BadShape
from tests.values import SIZES, no_lists, numbers

DRAW_PRIMES = (193, 257, 7681, 2013265921, 9999999967)


class DrawsTests(unittest.TestCase):
    def test_attributes(self):
        for p in DRAW_PRIMES:
            for coins in (list(range(16)), [-n for n in range(16)], numbers(p, 16), [p + n for n in range(16)],
                          [9999999999] * 16, [-9999999999] * 16):
                draws = Draws(coins, p=p)
                self.assertEqual((draws.B, draws.z, draws.w, draws.p), (coins[0] % p, coins[1] % p, coins[15] % p, p))
                self.assertIs(type(draws.k), tuple)
                self.assertEqual(draws.k, tuple(n % p for n in coins[2:15]))
                self.assertEqual(Draws(coins=tuple(coins), p=p), draws)

    def test_the_list_may_be_changed_behind(self):
        coins = list(range(16))
        draws = Draws(coins, p=257)
        self.assertEqual(coins, list(range(16)))
        coins[0] = coins[1] = coins[2] = coins[15] = 200
        coins.pop()
        self.assertEqual((draws.B, draws.z, draws.k, draws.w), (0, 1, tuple(range(2, 15)), 15))

    def refused(self, value, count):
        for _ in range(2):
            with self.assertRaises(BadShape) as held:
                Draws(value, p=257)
            self.assertEqual((held.exception.what, held.exception.count), ("coins", count))
            self.assertIs(type(held.exception.count), type(count))

    def test_wrong_lengths(self):
        for count in (0, 1, 2, 14, 15, 17, 18, 90, 93, 2048):
            self.refused([1] * count, count)
            self.refused((1,) * count, count)

    def test_values_that_are_no_lists(self):
        for value in no_lists() + ["a" * 16, 16]:
            self.refused(value, None)

    def test_mix(self):
        for p in DRAW_PRIMES:
            coins = numbers(p, 16)
            draws = Draws(coins, p=p)
            for fields in ([0] * 14, [1] * 14, list(range(14)), numbers(p + 1, 14), [-5] + [p] * 13):
                told = (fields[0] + sum(k * field for k, field in zip(coins[2:15], fields[1:]))) % p
                self.assertEqual(draws.mix(fields), told)
                self.assertEqual(draws.mix(fields=tuple(fields)), told)
            for at in range(14):
                fields = [int(at == k) for k in range(14)]
                self.assertEqual(draws.mix(fields), ([1] + coins[2:15])[at] % p)

    def test_touch(self):
        for p in DRAW_PRIMES:
            coins = numbers(p, 16)
            draws = Draws(coins, p=p)
            for address, worth in ((0, 0), (1, 0), (0, 1), (3, 9), (-1, -1), (p, p), (9999999999, -9999999999)):
                told = (coins[1] - address - coins[0] * worth) % p
                self.assertEqual(draws.touch(address, worth), told)
                self.assertEqual(draws.touch(worth=worth, address=address), told)

    def test_equal(self):
        coins = list(range(16))
        draws = Draws(coins, p=257)
        self.assertTrue(draws == Draws([n - 257 for n in coins], p=257))
        self.assertFalse(draws != Draws(coins, p=257))
        self.assertFalse(draws == Draws(coins, p=193))
        for at in range(16):
            other = Draws(coins[:at] + [100] + coins[at + 1:], p=257)
            self.assertIs(draws == other, False)
            self.assertIs(draws != other, True)
        for value in no_lists() + [coins, tuple(coins)]:
            self.assertIs(draws == value, False)
            self.assertIs(value == draws, False)


class NameTests(unittest.TestCase):
    def test_for_each_size(self):
        for rows, last in zip(SIZES, (2, 3, 4, 5, 6)):
            told = (["B", "z"] + ["k" + str(n) for n in range(1, 14)] + ["w"] + ["c" + str(n) for n in range(1, 39)]
                    + ["r" + str(n) for n in range(1, 37)] + ["f" + str(n) for n in range(last + 1)])
            for _ in range(2):
                self.assertEqual(coin_names(rows), told)
            self.assertEqual(coin_names(rows=rows), told)
            self.assertEqual(len(told), 91 + last)

    def test_the_list_is_new(self):
        names = coin_names(4)
        self.assertIs(type(names), list)
        names.clear()
        self.assertEqual(len(coin_names(4)), 93)


if __name__ == "__main__":
    unittest.main()
