import unittest

from shownrun.codes import Code
from shownrun.errors import BadShape, TooMany
from shownrun.folds import even_odd, fold, fold_lot, good_places, in_fold_lot
from shownrun.near import near_worths, together
from shownrun.places import Places
from shownrun.polys import Poly
from tests.test_codes import paired_places
from tests.tiny import most, some_words, told_near, told_together, told_word
from tests.values import FITTING, no_numbers, numbers

# Paired codes that are small enough to try all polynomials of their halves.
PAIRED = [Code([1, -1], 2, p=3), Code(paired_places(5, 4), 2, p=5), Code([3, 1, 2, -3, -1, -2], 2, p=7),
          Code(paired_places(11, 8), 2, p=11), Code(paired_places(13, 12), 4, p=13), Code(paired_places(13, 12), 2, p=13)]
# Codes that are not paired: an odd number of places, an odd degree, another place, another order.
UNPAIRED = [([1, 2, 3], 2), ([1, 2, -1], 2), ([0], 1), ([1, 2, -1, -2], 1), ([1, 2, -1, -2], 3), ([1, 2, -2, -1], 2),
            ([1, -1, 2, -2], 2), ([1, 2, -1, -3], 2), ([1, 2, 3, 4], 4), ([1, 0, -1], 2)]


def told_fold(code, word, coin):
    half, p = len(code) // 2, code.p
    return [((u + v) * pow(2, p - 2, p) + coin * (u - v) * pow(2 * x, p - 2, p)) % p
            for u, v, x in zip(word[:half], word[half:], code.places)]


def told_fold_lot(code, word, e):
    """The fold lot by trying all polynomials of the half."""
    half, p = code.half(), code.p
    even = told_fold(code, word, 0)
    odd = [(n - m) % p for n, m in zip(told_fold(code, word, 1), even)]
    joint = told_together(half, [even, odd], e)
    if joint is None:
        return tuple(r for r in range(p) if told_near(half, told_fold(code, word, r), e))
    (low, high), lot = joint
    return tuple(r for r in range(p)
                 if any(told_fold(code, word, r)[at] == (low(half.places[at]) + r * high(half.places[at])) % p
                        for at in lot))


def told_good(codes, words, coins):
    """The good places of all words, by the words of the document."""
    def is_good(layer, at):
        if layer == len(coins):
            return True
        square = at % len(codes[layer + 1])
        folded = told_fold(codes[layer], words[layer], coins[layer])[square]
        return (folded - words[layer + 1][square]) % codes[0].p == 0 and is_good(layer + 1, square)

    return [tuple(at for at in range(len(codes[layer])) if is_good(layer, at)) for layer in range(len(coins) + 1)]


class FoldTests(unittest.TestCase):
    def test_by_the_formula(self):
        for p, rows in FITTING[:8]:
            for at in range(3):
                code = Places(p, rows).layer(at)
                word, half = numbers(p, len(code)), len(code) // 2
                even, odd = even_odd(code, word)
                for coin in (0, 1, -1, 5, p + 2, 9999999999, -9999999999):
                    folded = fold(code, word, coin)
                    self.assertIs(type(folded), tuple)
                    for place in range(half):
                        low, high, x = word[place], word[place + half], code.places[place]
                        self.assertEqual(2 * x * folded[place] % p, (x * (low + high) + coin * (low - high)) % p)
                        self.assertEqual(folded[place], (even[place] + coin * odd[place]) % p)
                    self.assertEqual(len(folded), half)

    def test_even_and_odd_part_of_a_polynomial(self):
        code = Places(769, 8).layer(0)
        word = code.word(Poly([1, 2, 3, 4, 5, 6], p=769))
        self.assertEqual(even_odd(code, word), (code.half().word(Poly([1, 3, 5], p=769)),
                                                code.half().word(Poly([2, 4, 6], p=769))))
        self.assertEqual(even_odd(code=code, word=list(word)), even_odd(code, word))
        self.assertEqual(fold(code=code, word=list(word), coin=2), code.half().word(Poly([5, 11, 17], p=769)))

    def test_words_and_coins_that_are_not_reduced(self):
        for code in PAIRED:
            for word in some_words(code, 1, 6):
                reduced = [n % code.p for n in word]
                for coin in numbers(2, 4) + [0, 1]:
                    self.assertEqual(fold(code, word, coin), tuple(told_fold(code, word, coin)))
                    self.assertEqual(fold(code, reduced, coin % code.p), fold(code, word, coin))
                self.assertEqual(even_odd(code, word), even_odd(code, tuple(reduced)))


class LotTests(unittest.TestCase):
    def test_against_all_polynomials(self):
        for code in PAIRED:
            half = code.half()
            for word in some_words(code, 2, 25):
                for e in range(most(half) + 1):
                    told = told_fold_lot(code, word, e)
                    lot = fold_lot(code, word, e)
                    self.assertEqual((lot, type(lot)), (told, tuple))
                    for coin in range(-2, code.p + 2):
                        self.assertIs(in_fold_lot(code, word, coin, e), coin % code.p in told)
                    if 3 * e < half.distance:
                        self.assertLessEqual(len(lot), e + 1)

    def test_faults_that_a_coin_hides(self):
        # One fault, at the place 1: the fold by x agrees with that of the right word just if 1 + x / x_1 is 0.
        for p, rows in ((257, 4), (257, 8), (769, 8)):
            code = Places(p, rows).layer(0)
            word = told_word(code, numbers(rows, code.degree))
            self.assertEqual(fold_lot(code, word, 2 * rows), ())
            for at in (0, 1, len(code) // 2, len(code) - 1):
                faulty = word[:at] + [word[at] + 5] + word[at + 1:]
                told = -code.places[at] % p
                self.assertEqual(fold_lot(code, faulty, 2 * rows), (told,))
                self.assertEqual(fold_lot(code, faulty, 0), (told,))
                self.assertIs(in_fold_lot(code, faulty, told - p, 2 * rows), True)
                self.assertIs(in_fold_lot(code, faulty, told + 1, 2 * rows), False)
            both = list(word)
            both[3] += 1
            both[3 + len(code) // 2] += 1
            # The odd part has no fault then, and no coin hides that of the even part.
            self.assertEqual(fold_lot(code, both, 2 * rows), ())

    def test_far_words(self):
        code = Places(257, 4).layer(0)
        half = code.half()
        zeros = [0] * 64
        word = list(zeros)
        for at in range(9):
            word[at] = -2 * (at + 1) * code.places[at]
            word[at + 32] = 0
        even, odd = even_odd(code, word)
        self.assertIsNone(together(half, [even, odd], 8))
        lot = near_worths(half, even, odd, 8)
        self.assertEqual(fold_lot(code, word, 8), lot)
        self.assertEqual(sorted(lot), sorted(-x % 257 for x in code.places[:9]))
        self.assertEqual([coin for coin in range(257) if in_fold_lot(code, word, coin, 8)], sorted(lot))
        self.assertEqual(fold_lot(code, word, 9), tuple(sorted(lot)))
        self.assertEqual(fold_lot(code, [n ** 5 for n in range(64)], 8), ())

    def test_great_primes(self):
        for p in (12289, 998244353, 2013265921):
            code = Places(p, 16).layer(1)
            word = told_word(code, numbers(p, code.degree))
            word[70] += 4
            told = -code.places[70] % p
            for coin in (told, told - p, told + 3 * p):
                self.assertIs(in_fold_lot(code, word, coin, 16), True)
            for coin in (0, 1, -told, told + 1, 9999999999):
                self.assertIs(in_fold_lot(code, word, coin, 16), False)
            far = [n ** 3 for n in range(128)]
            self.assertIs(in_fold_lot(code, far, told, 16), False)

    def test_by_name(self):
        code = Code(paired_places(13, 12), 2, p=13)
        word = [0] * 11 + [1]
        self.assertEqual(fold_lot(code=code, word=tuple(word), e=1), (6,))
        self.assertIs(in_fold_lot(code=code, word=word, coin=6 - 13, e=1), True)
        self.assertEqual(word, [0] * 11 + [1])


class RefusedTests(unittest.TestCase):
    def refused(self, what, count, call):
        with self.assertRaises(BadShape) as held:
            call()
        self.assertEqual(held.exception.what, what)
        self.assertIs(held.exception.count, count)

    def test_unless_paired(self):
        for p in (257, 9999999967):
            for places, degree in UNPAIRED:
                code, word = Code(places, degree, p=p), [0] * len(places)
                for call in (lambda: fold(code, word, 1), lambda: even_odd(code, word), lambda: fold_lot(code, word, -1),
                             lambda: in_fold_lot(code, word, 1, -1), lambda: fold_lot(code, word, 0),
                             lambda: in_fold_lot(code, word, 1, None), lambda: good_places(code, [word, word[1:]], [1])):
                    self.refused("places", len(places), call)

    def test_wrong_e(self):
        for code in PAIRED + [Code(paired_places(9999999967, 8), 2, p=9999999967), Places(257, 4).layer(0)]:
            word, greatest = [0] * len(code), most(code.half())
            for e in no_numbers() + [-1, greatest + 1, 9999999999, -9999999999]:
                self.refused("e", e, lambda: fold_lot(code, word, e))
                self.refused("e", e, lambda: in_fold_lot(code, word, 1, e))
            in_fold_lot(code, word, 1, greatest)

    def test_too_many_worths(self):
        for p in (809, 12289, 9999999967):
            with self.assertRaises(TooMany) as held:
                fold_lot(Code(paired_places(p, 8), 2, p=p), [0] * 8, 0)
            self.assertEqual((held.exception.what, held.exception.most), ("worths", 800))
        self.assertEqual(fold_lot(Code(paired_places(797, 8), 2, p=797), [0] * 7 + [1], 1), (4,))

    def test_a_later_code_that_is_not_paired(self):
        code = Code(paired_places(257, 8), 2, p=257)
        self.assertEqual(len(good_places(code, [[0] * 8, [0] * 4], [1])), 2)
        self.refused("places", 4, lambda: good_places(code, [[0] * 8, [0] * 4, [0] * 2], [1, 1]))
        code = Code([1, 4, 16, 64, -1, -4, -16, -64], 8, p=257)
        words = [[0] * 8, [0] * 4, [0] * 2, [0]]
        self.assertEqual(len(good_places(code, words, [1, 1, 1])), 4)
        self.refused("places", 1, lambda: good_places(code, words + [[]], [1, 1, 1, 1]))
        for places, degree in UNPAIRED:
            code = Code(places, degree, p=257)
            self.assertEqual(good_places(code, [[5] * len(places)], []), [tuple(range(len(places)))])


class GoodTests(unittest.TestCase):
    def test_against_the_words(self):
        for p, rows in ((257, 4), (769, 8), (2013265921, 4)):
            layers = Places(p, rows)
            count = layers.layers + 1
            codes = [layers.layer(at) for at in range(count + 1)]
            coins = numbers(rows, count)
            words = [told_word(codes[0], numbers(p, codes[0].degree))]
            for code, coin in zip(codes, coins):
                words.append(told_fold(code, words[-1], coin))
            every = [tuple(range(len(code))) for code in codes]
            self.assertEqual(good_places(codes[0], words, coins), every)
            self.assertEqual(good_places(codes[1], words[1:], coins[1:]), every[1:])
            for layer in range(count + 1):
                changed = [list(word) for word in words]
                for at in numbers(layer, 3, 0, len(codes[layer]) - 1):
                    changed[layer][at] += 1
                told = told_good(codes, changed, coins)
                made = good_places(codes[0], changed, coins)
                self.assertEqual(made, told)
                self.assertEqual({type(item) for item in made}, {tuple})
                self.assertEqual(good_places(code=codes[0], words=tuple(changed), coins=tuple(coins)), told)
                greater = [[n - 3 * p for n in word] for word in changed]
                self.assertEqual(good_places(codes[0], greater, [coin + p for coin in coins]), told)

    def test_words_at_will(self):
        for code in PAIRED:
            half = code.half()
            for seed in range(8):
                words = [numbers(seed, len(code), 0, 2), numbers(seed + 9, len(half), 0, 2)]
                for coin in (0, 1, -1):
                    self.assertEqual(good_places(code, words, [coin]), told_good([code, half], words, [coin]))

    def test_the_fact(self):
        layers = Places(257, 4)
        codes = [layers.layer(at) for at in range(4)]
        for seed in range(6):
            coins = numbers(seed, 3)
            words = [told_word(codes[0], numbers(seed, 8))]
            for at in numbers(seed, 3, 0, 63):
                words[0][at] += 1
            for code, coin in zip(codes, coins):
                words.append(told_fold(code, words[-1], coin))
            words[3] = [max(words[3], key=words[3].count)] * 8
            good = good_places(codes[0], words, coins)
            unlucky = [in_fold_lot(codes[i], words[i], coins[i], (16, 8, 4, 2)[i + 1]) for i in range(3)]
            if 64 - len(good[0]) <= 16 and not any(unlucky):
                for code, word, places in zip(codes, words, good):
                    points = [(code.places[at], word[at]) for at in places]
                    poly = Poly.through(points[:code.degree], p=257)
                    self.assertEqual([poly(x) for x, _ in points], [n % 257 for _, n in points])


if __name__ == "__main__":
    unittest.main()
