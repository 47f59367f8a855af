import unittest

from shownrun.codes import Code
from shownrun.errors import BadShape
from shownrun.folds import even_odd, fold
from shownrun.places import Places
from shownrun.polys import Poly
from tests.values import FITTING, numbers


class FoldTests(unittest.TestCase):
    def test_by_the_formula(self):
        for p, rows in FITTING[:8]:
            for at in range(3):
                code = Places(p, rows).layer(at)
                word, half = numbers(p, len(code)), len(code) // 2
                even, odd = even_odd(code, word)
                for coin in (0, 1, -1, 5, p + 2, 9999999999, -9999999999):
                    folded = fold(code, word, coin)
                    self.assertIs(type(folded), tuple)
                    for place in range(half):
                        low, high, x = word[place], word[place + half], code.places[place]
                        self.assertEqual(2 * x * folded[place] % p, (x * (low + high) + coin * (low - high)) % p)
                        self.assertEqual(folded[place], (even[place] + coin * odd[place]) % p)
                    self.assertEqual(len(folded), half)

    def test_even_and_odd_part_of_a_polynomial(self):
        code = Places(769, 8).layer(0)
        word = code.word(Poly([1, 2, 3, 4, 5, 6], p=769))
        self.assertEqual(even_odd(code, word), (code.half().word(Poly([1, 3, 5], p=769)),
                                                code.half().word(Poly([2, 4, 6], p=769))))
        self.assertEqual(even_odd(code=code, word=list(word)), even_odd(code, word))
        self.assertEqual(fold(code=code, word=list(word), coin=2), code.half().word(Poly([5, 11, 17], p=769)))

    def test_refused_unless_paired(self):
        for places, degree in (([1, 2, 3], 2), ([1, 2, -1, -2], 1), ([1, 2, -2, -1], 2)):
            code = Code(places, degree, p=257)
            for call in (lambda: fold(code, [0] * len(places), 1), lambda: even_odd(code, [0] * len(places))):
                with self.assertRaises(BadShape) as held:
                    call()
                self.assertEqual((held.exception.what, held.exception.count), ("places", len(places)))


if __name__ == "__main__":
    unittest.main()
