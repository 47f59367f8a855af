import itertools
import unittest

from shownrun.codes import Code
from shownrun.errors import BadShape, NotNear, TooMany
from shownrun.near import (combined, in_line_lot, in_mix_lot, line_lot, mended, mix_lot, near_worths, parted, together,
                           within)
from shownrun.places import Places
from shownrun.polys import Poly
from tests.tiny import (TINY, all_polys, most, some_words, told_lot, told_near, told_together, told_word, told_worths)
from tests.values import SOME_PRIMES, no_numbers, numbers

LINE = Code(list(range(1, 13)), 2, p=13)
LINE_ONE = [12, 11, 10, 9] + [0] * 8
LINE_OTHER = [1] * 4 + [0] * 8


class Refusing(unittest.TestCase):
    def refused(self, e, call):
        with self.assertRaises(BadShape) as held:
            call(e)
        self.assertEqual(held.exception.what, "e")
        self.assertIs(held.exception.count, e)

    def all_calls(self, code):
        """Calls of all functions with an e, by e; those that count worths are the last three."""
        word, zeros = [0] * len(code), [[0] * len(code)]
        return [lambda e: mended(code, word, e), lambda e: within(code, word, e), lambda e: together(code, zeros, e),
                lambda e: together(code, [], e), lambda e: in_line_lot(code, word, word, e, 1),
                lambda e: in_mix_lot(code, word, zeros, [1], 1, e), lambda e: near_worths(code, word, word, e),
                lambda e: line_lot(code, word, word, e), lambda e: mix_lot(code, word, zeros, [1], 1, e)]

    def test_wrong_e(self):
        for code in TINY + [Code([1, 2, 3, 4, 5], 2, p=9999999967), Places(257, 4).layer(0)]:
            wrong = no_numbers() + [-1, -9999999999, most(code) + 1, len(code), 9999999999, True, False, [0], (0,), "0"]
            for call in self.all_calls(code):
                for e in wrong:
                    self.refused(e, call)

    def test_the_greatest_e(self):
        for count, degree, greatest in ((1, 1, 0), (2, 1, 0), (3, 1, 1), (4, 1, 1), (5, 1, 2), (5, 2, 1), (6, 2, 2),
                                        (6, 6, 0), (64, 8, 28), (12, 2, 5)):
            code = Code(list(range(count)), degree, p=257)
            for call in self.all_calls(code):
                call(greatest)
                self.refused(greatest + 1, call)

    def test_too_many_worths(self):
        for p in (809, 998244353, 9999999967):
            for call in self.all_calls(Code([1, 2, 3, 4], 2, p=p))[:-3]:
                call(1)
            for call in self.all_calls(Code([1, 2, 3, 4], 2, p=p))[-3:]:
                with self.assertRaises(TooMany) as held:
                    call(1)
                self.assertEqual((held.exception.what, held.exception.most), ("worths", 800))
        for call in self.all_calls(Code([1, 2, 3, 4], 2, p=797))[-3:]:
            call(1)


class CombinedTests(unittest.TestCase):
    def test_sums(self):
        self.assertEqual(combined([[1, 2, 3]], [2], p=5), (2, 4, 1))
        self.assertEqual(combined([(1, 2), [3, 4], (-1, 9)], (1, -1, 10), p=7), (2, 4))
        self.assertEqual(combined(words=[[1, 8], [0, 0]], worths=[1, 5], p=7), (1, 1))
        self.assertEqual(combined([[5]], [0], p=7), (0,))
        self.assertIs(type(combined([[5]], [3], p=7)), tuple)

    def test_by_the_formula(self):
        for p in SOME_PRIMES:
            words, worths = [numbers(k, 6) for k in range(4)], numbers(p, 4)
            told = [sum(r * word[at] for r, word in zip(worths, words)) % p for at in range(6)]
            self.assertEqual(combined(words, worths, p=p), tuple(told))


class PartedTests(unittest.TestCase):
    def test_parted(self):
        code = Code([1, 2, 3, 4], 2, p=7)
        poly = Poly([1, 1], p=7)
        self.assertEqual(parted(code, [2, 3, 4, 5], poly), ())
        self.assertEqual(parted(code, [9, -4, 4, 5], poly), ())
        self.assertEqual(parted(code, [2, 2, 4, 6], poly), (1, 3))
        self.assertEqual(parted(code=code, word=(0, 0, 0, 0), poly=Poly([1], p=7)), (0, 1, 2, 3))
        self.assertEqual(parted(code, [1, 1, 2, 6], Poly([0, 0, 0, 1], p=7)), (2, 3))
        self.assertEqual(parted(code, [1, 1, 6, 1], Poly([0, 0, 0, 1], p=7)), ())

    def test_against_all_polynomials(self):
        for code in TINY:
            for word in some_words(code, 1, 3):
                for coefficients in all_polys(code):
                    told = told_word(code, coefficients)
                    self.assertEqual(parted(code, word, Poly(coefficients, p=code.p)),
                                     tuple(at for at in range(len(code)) if word[at] % code.p != told[at]))


class MendedTests(unittest.TestCase):
    def check(self, code, word, e, poly):
        if poly is None:
            with self.assertRaises(NotNear) as held:
                mended(code, word, e)
            self.assertEqual(held.exception.e, e)
        else:
            self.assertEqual(mended(code, word, e), poly)
        self.assertIs(within(code, word, e), poly is not None)

    def test_all_words_of_tiny_codes(self):
        for code in TINY[:6]:
            for word in itertools.product(range(code.p), repeat=len(code)):
                for e in range(most(code) + 1):
                    near = told_near(code, word, e)
                    self.assertLessEqual(len(near), 1)
                    self.check(code, word, e, near[0][0] if near else None)

    def test_some_words_of_tiny_codes(self):
        for code in TINY:
            for word in some_words(code, 2, 40):
                for e in range(most(code) + 1):
                    near = told_near(code, word, e)
                    self.check(code, word, e, near[0][0] if near else None)

    def test_by_name(self):
        code = Code([1, 2, 3, 4], 2, p=7)
        self.assertEqual(mended(code=code, word=(2, 3, 4, 0), e=1), Poly([1, 1], p=7))
        self.assertIs(within(code=code, word=[2, 3, 4, 0], e=0), False)
        self.assertIs(within(code=code, word=[2, 3, 4, 0], e=1), True)

    def test_faults_at_up_to_e_places(self):
        for p, rows in ((257, 4), (257, 8), (769, 16), (12289, 8), (998244353, 16), (2013265921, 4)):
            for at in (0, 1, 2):
                self.faulty(Places(p, rows).layer(at), rows * 4 >> at)
        for degree in (1, 2, 7, 29, 30):
            code = Code(numbers(5, 30, 0, 9999999966), degree, p=9999999967)
            self.faulty(code, most(code))

    def faulty(self, code, e):
        told = numbers(e + code.p, code.degree)
        poly = Poly(told, p=code.p)
        right = told_word(code, told)
        for count in sorted({0, min(1, e), e // 2, e}):
            for places in (range(count), range(len(code) - count, len(code)), range(0, 2 * count, 2)):
                # Numbers below the prime are added, so that each of the places has a fault.
                word = list(right)
                for at in places:
                    word[at] += 1 + at * at % (code.p - 1)
                self.assertEqual(mended(code, word, e), poly)
                self.assertEqual(parted(code, word, poly), tuple(places))
                self.assertEqual(together(code, [word], e), ((poly,), tuple(places)))
                self.assertIs(within(code, word, count), True)
                if count:
                    self.assertIs(within(code, word, count - 1), False)
        word = [n + 1 + k * k * k for k, n in enumerate(right)]
        if code.distance > 40:
            self.check(code, word, e, None)

    def test_one_fault_too_many(self):
        for p, rows in ((257, 4), (7681, 8), (2013265921, 16)):
            code, e = Places(p, rows).layer(0), 4 * rows
            right = told_word(code, numbers(p, code.degree))
            for first in (0, 7, len(code) - e - 1):
                word = [n + (first <= at <= first + e) * (at + 1) for at, n in enumerate(right)]
                self.check(code, word, e, None)
                word[first] = right[first]
                self.check(code, word, e, Poly(numbers(p, code.degree), p=p))

    def test_a_great_code(self):
        code = Places(2013265921, 64).layer(0)
        told = numbers(64, 128)
        poly = Poly(told, p=code.p)
        word = list(code.word(poly))
        for at in range(256):
            word[(at * 5 + 3) % 1024] += at + 1
        self.assertEqual(mended(code, word, 256), poly)
        self.check(code, word, 255, None)

    def test_words_are_not_changed(self):
        code, word = Code([1, 2, 3, 4], 1, p=7), [9, 2, 2, -5]
        mended(code, word, 1)
        together(code, [word, word], 1)
        line_lot(code, word, word, 1, word)
        self.assertEqual(word, [9, 2, 2, -5])


class TogetherTests(unittest.TestCase):
    def test_no_words(self):
        for code in TINY:
            self.assertEqual(together(code, [], 0), ((), ()))
            self.assertEqual(together(code=code, words=(), e=most(code)), ((), ()))

    def test_against_all_polynomials(self):
        for code in TINY:
            words = some_words(code, 3, 14)
            for e in range(most(code) + 1):
                for count in (1, 2, 3):
                    for first in range(0, len(words) - count, 2):
                        some = words[first:first + count]
                        self.assertEqual(together(code, some, e), told_together(code, some, e))

    def test_common_and_other_places(self):
        code = Places(769, 4).layer(0)
        one = [n + 3 * (at in (2, 5, 9)) for at, n in enumerate(told_word(code, [1, 2, 3]))]
        other = [n + 700 * (at in (5, 9, 60)) for at, n in enumerate(told_word(code, [4]))]
        polys = (Poly([1, 2, 3], p=769), Poly([4], p=769))
        self.assertEqual(together(code, [one, other], 4), (polys, (2, 5, 9, 60)))
        self.assertEqual(together(code, (other, one), 28), (polys[::-1], (2, 5, 9, 60)))
        self.assertIsNone(together(code, [one, other], 3))
        self.assertEqual(together(code, [one, one], 3), ((polys[0],) * 2, (2, 5, 9)))
        self.assertEqual(together(code, [one, other, one, [0] * 64], 4), ((*polys, polys[0], Poly(p=769)), (2, 5, 9, 60)))
        self.assertIsNone(together(code, [one, [n ** 9 for n in range(64)]], 28))

    def test_kinds(self):
        polys, lot = together(Code([1, 2, 3], 1, p=7), [[1, 1, 2]], 1)
        self.assertEqual((type(polys), type(lot), polys, lot), (tuple, tuple, (Poly([1], p=7),), (2,)))


class LineTests(unittest.TestCase):
    def test_the_examples(self):
        self.assertEqual(near_worths(LINE, LINE_ONE, LINE_OTHER, 3), (1, 2, 3, 4))
        self.assertEqual(line_lot(LINE, LINE_ONE, LINE_OTHER, 3), (1, 2, 3, 4))
        self.assertIsNone(together(LINE, [LINE_ONE, LINE_OTHER], 3))
        self.assertEqual([r for r in range(13) if in_line_lot(LINE, LINE_ONE, LINE_OTHER, 3, r)], [1, 2, 3, 4])
        code = Code([1, 2, 3], 1, p=7)
        self.assertEqual(near_worths(code, [0, 1, 3], [0, 1, 2], 1), (2, 5, 6))
        self.assertEqual(line_lot(code, [0, 1, 3], [0, 1, 2], 1), (2, 5, 6))
        self.assertIsNone(together(code, [[0, 1, 3], [0, 1, 2]], 1))
        self.assertEqual(near_worths(Code([6, 0, 4], 1, p=7), [0, 1, 3], [0, 1, 2], 1), (2, 5, 6))

    def test_against_all_polynomials(self):
        for code in TINY:
            words = some_words(code, 4, 12)
            for e in range(most(code) + 1):
                for first in range(0, 8, 2):
                    one, other, *carried = words[first:first + 4]
                    for held in ([], carried[:1], carried):
                        told = told_lot(code, one, other, e, *held)
                        self.assertEqual(near_worths(code, one, other, e, *held),
                                         told_worths(code, one, other, e, *held))
                        self.assertEqual(line_lot(code, one, other, e, *held), told)
                        for r in range(-1, code.p + 1):
                            self.assertIs(in_line_lot(code, one, other, e, r, *held), r % code.p in told)

    def test_words_with_the_same_fault_as_the_carried_one(self):
        code = Code(list(range(9)), 2, p=11)
        one = [0, 0, 0, 0, 0, 0, 0, 5, 0]
        other = [0, 0, 0, 0, 0, 0, 0, 1, 0]
        self.assertEqual(near_worths(code, one, other, 0), (6,))
        self.assertEqual(line_lot(code, one, other, 0, [1] * 9), (6,))
        self.assertEqual(line_lot(code, one, other, 1, [1] * 9), ())
        self.assertEqual(near_worths(code, one, other, 1), tuple(range(11)))
        self.assertEqual(near_worths(code, one, other, 1, [3, 1, 1, 1, 1, 1, 1, 1, 1]), (6,))
        self.assertEqual(near_worths(code, one, other, 1, [1, 1, 1, 1, 1, 1, 1, 2, 1]), tuple(range(11)))
        self.assertEqual(near_worths(code, one, other, 1, [4, 1, 1, 1, 5, 1, 1, 2, 1]), ())

    def test_the_bound(self):
        for code in TINY + [LINE]:
            words = some_words(code, 5, 30)
            for e in range(most(code) + 1):
                bound = e + 1 if 3 * e < code.distance else code.p
                for first in range(28):
                    lot = line_lot(code, words[first], words[first + 1], e)
                    self.assertLessEqual(len(lot), bound)

    def test_the_bound_is_met_and_false_from_there_on(self):
        # e + 1 near worths, for all e with 3 * e below the distance: each of the worths mends one of the faults.
        for e in range(1, 5):
            code = Code(list(range(1, 13)), 12 - 3 * e if e < 4 else 1, p=13)
            if not 3 * e < code.distance:
                continue
            one = [-r for r in range(1, e + 2)] + [0] * (11 - e)
            other = [1] * (e + 1) + [0] * (11 - e)
            self.assertEqual(line_lot(code, one, other, e), tuple(range(1, e + 2)))
        code = Code([1, 2, 3], 1, p=7)
        self.assertEqual(len(line_lot(code, [0, 1, 3], [0, 1, 2], 1)), 3)

    def test_by_name(self):
        self.assertEqual(near_worths(code=LINE, one=LINE_ONE, other=LINE_OTHER, e=3), (1, 2, 3, 4))
        self.assertEqual(line_lot(code=LINE, one=tuple(LINE_ONE), other=LINE_OTHER, e=3), (1, 2, 3, 4))
        self.assertIs(in_line_lot(code=LINE, one=LINE_ONE, other=LINE_OTHER, e=3, worth=15), True)

    def test_great_primes(self):
        code = Places(2013265921, 4).layer(0)
        one = [-r for r in range(5, 22)] + [0] * 47
        other = [1] * 17 + [0] * 47
        for r in range(5, 22):
            self.assertIs(in_line_lot(code, one, other, 16, r), True)
            self.assertIs(in_line_lot(code, one, other, 16, r - 2013265921), True)
            self.assertIs(in_line_lot(code, one, other, 17, r), False)
        for r in (0, 4, 22, -5, 9999999999):
            self.assertIs(in_line_lot(code, one, other, 16, r), False)
        held = told_word(code, numbers(1, 8))
        self.assertIs(in_line_lot(code, one, other, 16, 5, held), True)
        held[16] += 1
        self.assertIs(in_line_lot(code, one, other, 16, 5, held), True)
        held[17] += 1
        self.assertIs(in_line_lot(code, one, other, 16, 5, held), False)

    def test_greater_codes(self):
        for p, rows in ((257, 8), (769, 8)):
            code, e = Places(p, rows).layer(0), 4 * rows
            one = [n - r for n, r in zip(told_word(code, numbers(p, 9)), range(e + 1))] \
                + told_word(code, numbers(p, 9))[e + 1:]
            other = [1] * (e + 1) + [0] * (len(code) - e - 1)
            self.assertEqual(line_lot(code, one, other, e), tuple(range(e + 1)))


class MixTests(unittest.TestCase):
    def told_mix(self, code, base, words, coins, at, e):
        ahead = [(n + sum(r * word[k] for r, word in zip(coins[:at - 1], words))) for k, n in enumerate(base)]
        return told_lot(code, ahead, words[at - 1], e, *words[at:])

    def test_against_all_polynomials(self):
        for code in TINY:
            for seed in range(4):
                base, *words = some_words(code, 10 + seed, 4)
                for e in range(most(code) + 1):
                    coins = numbers(seed + e, 3)
                    for at in (1, 2, 3):
                        told = self.told_mix(code, base, words, coins, at, e)
                        self.assertEqual(mix_lot(code, base, words, coins, at, e), told)
                        self.assertEqual(mix_lot(code, tuple(base), tuple(words), tuple(coins), at, e), told)
                        for r in range(code.p):
                            some = coins[:at - 1] + [r - code.p] + coins[at:]
                            self.assertIs(in_mix_lot(code, base, words, some, at, e), r in told)

    def test_one_word(self):
        self.assertEqual(mix_lot(LINE, LINE_ONE, [LINE_OTHER], [5], 1, 3), (1, 2, 3, 4))
        self.assertIs(in_mix_lot(LINE, LINE_ONE, [LINE_OTHER], [5], 1, 3), False)
        self.assertIs(in_mix_lot(code=LINE, base=LINE_ONE, words=[LINE_OTHER], coins=[17], at=1, e=3), True)
        self.assertEqual(mix_lot(code=LINE, base=LINE_ONE, words=[LINE_OTHER], coins=[17], at=1, e=3), (1, 2, 3, 4))

    def test_the_fact(self):
        for code in TINY:
            for seed in range(30, 60):
                base, *words = some_words(code, seed, 3)
                for e in range(most(code) + 1):
                    coins = numbers(seed, 2)
                    mixed = combined([base, *words], [1, *coins], p=code.p)
                    unlucky = [in_mix_lot(code, base, words, coins, at, e) for at in (1, 2)]
                    if within(code, mixed, e) and not any(unlucky):
                        self.assertIsNotNone(together(code, [base, *words], e))

    def test_great_primes(self):
        code = Places(998244353, 4).layer(0)
        zero = [0] * 64
        one = [-3] * 17 + [0] * 47
        other = [1] * 17 + [0] * 47
        words = [zero, other, told_word(code, [5, 6])]
        for coins in ([7, 3, 9], [9, 3 - 998244353, 1]):
            self.assertEqual([in_mix_lot(code, one, words, coins, at, 16) for at in (1, 2, 3)], [False, True, False])
        self.assertIs(in_mix_lot(code, one, words, [7, 4, 9], 2, 16), False)
        words[0] = told_word(code, [1])
        self.assertIs(in_mix_lot(code, one, words, [7, 3, 9], 2, 16), True)
        self.assertIs(in_mix_lot(code, one, words, [7, 3, 9], 2, 17), False)


if __name__ == "__main__":
    unittest.main()
