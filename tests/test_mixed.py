import unittest

from shownrun.codes import Code
from shownrun.draws import Draws
from shownrun.mixed import Mixed
from shownrun.places import Places
from shownrun.polys import Poly
from tests.samples import (EQUATIONS, SAMPLES, SMALL, SMALL_ROWS, SMALL_WRONG, coins_of, columns_of, counts_of,
                           program_of, told_equation)
from tests.values import numbers


def told_words(program, counts, words, coins, p, rows):
    """The words of C and W by the document's words."""
    places, size = Places(p, rows), 16 * rows
    last = pow(places.row_root, rows - 1, p)
    closing = program.closing(counts, Draws(coins[:16], p=p))
    lines = list(zip(*words))
    low, high = [], []
    for at in range(size):
        x = places.place(at)
        every = x ** rows - 1
        divisors = {"all": every, "step": every * pow(x - last, p - 2, p), "first": x - 1, "last": x - last}
        quotient = 0
        for number, (kind, _) in enumerate(EQUATIONS, 1):
            worth = told_equation(number, lines[at], lines[(at + 16) % size], coins, p, program.frame, closing)
            quotient += coins[15 + number] * worth * pow(divisors[kind], p - 2, p)
        low.append(quotient % p)
        high.append((quotient + sum(r * worth for r, worth in zip(coins[54:90], lines[at]))) % p)
    return tuple(low), tuple(high)


class MixedTests(unittest.TestCase):
    def check(self, program, counts, words, coins, p, rows):
        quotients, word = told_words(program, counts, words, coins, p, rows)
        mixed = Mixed(program, counts, words, coins[:90], p=p, rows=rows)
        self.assertEqual(mixed.quotients(), quotients)
        self.assertEqual(mixed.word(), word)
        self.assertEqual((type(mixed.quotients()), type(mixed.word())), (tuple, tuple))
        size = 16 * rows
        for at in [0, 1, 17, size - 1, size, -1, -size - 3, 9999999999, -9999999999]:
            self.assertEqual(mixed.quotient_at(at), quotients[at % size])
            self.assertEqual(mixed.worth_at(at), word[at % size])
            self.assertEqual(mixed.quotient_at(place=at), quotients[at % size])
            self.assertEqual(mixed.worth_at(place=at), word[at % size])
        return mixed

    def test_any_words(self):
        for p, rows in ((193, 4), (257, 4), (257, 8), (2013265921, 8)):
            program = program_of(["set 0 0 0 3", "call 5 1 2 0", "stop 0 0 0 0"], 12)
            words = [numbers(k, 16 * rows) for k in range(36)]
            self.check(program, [1, rows - 2, 1], words, numbers(p, 90), p, rows)

    def test_small_words(self):
        program = program_of(["jz 0 0 0 3", "stop 0 0 0 0"], 1)
        words = [numbers(k, 64, 0, 1) for k in range(36)]
        self.check(program, [0, 4], words, numbers(8, 90, 0, 256), 257, 4)

    def test_each_mixer_alone(self):
        words = [numbers(k, 64) for k in range(36)]
        for at in range(16, 90, 7):
            coins = numbers(3, 16) + [0] * 74
            coins[at] = 1
            self.check(SMALL, [1, 1, 1, 1], words, coins, 257, 4)

    def test_no_mixers(self):
        words = [numbers(k, 64) for k in range(36)]
        mixed = self.check(SMALL, [1, 1, 1, 1], words, numbers(3, 16) + [0] * 74, 257, 4)
        self.assertEqual((set(mixed.word()), set(mixed.quotients())), ({0}, {0}))

    def test_the_counts_count(self):
        words = [numbers(k, 64) for k in range(36)]
        coins = numbers(4, 90)
        made = [self.check(SMALL, counts, words, coins, 257, 4).quotients()
                for counts in ([1, 1, 1, 1], [4, 0, 0, 0], [0, 1, 0, 3])]
        self.assertEqual(len(set(made)), 3)

    def test_the_example(self):
        coins = coins_of(4)
        words = [Places(257, 4).stretched(column) for column in columns_of(SMALL_ROWS, coins)]
        mixed = self.check(SMALL, [1, 1, 1, 1], words, coins, 257, 4)
        self.assertEqual([mixed.worth_at(at) for at in (0, 1, 32)], [51, 34, 90])
        wrong = SMALL_ROWS.changed("imm", 2, 10)
        words = [Places(257, 4).stretched(column) for column in columns_of(wrong, coins)]
        mixed = self.check(SMALL_WRONG, [1, 1, 1, 1], words, coins, 257, 4)
        self.assertEqual([mixed.worth_at(at) for at in (0, 1, 32)], [138, 97, 104])

    def test_the_word_of_a_run_has_a_low_degree(self):
        for program, rows in SAMPLES[:5]:
            places = Places(rows.p, len(rows))
            coins = coins_of(len(rows), 6, rows.p)
            words = [places.stretched(column) for column in columns_of(rows, coins)]
            mixed = Mixed(program, counts_of(program, rows), words, coins[:90], p=rows.p, rows=len(rows))
            word, xs = mixed.word(), list(places.all_places())
            poly = Poly.through(list(zip(xs, word))[:places.degree], p=rows.p)
            self.assertEqual(Code(xs, places.degree, p=rows.p).word(poly), word)

    def test_by_name_and_what_was_passed_may_be_changed_behind(self):
        words, coins, counts = [numbers(k, 64) for k in range(36)], numbers(4, 90), [1, 1, 1, 1]
        mixed = Mixed(counts=counts, program=SMALL, coins=coins, words=words, rows=4, p=257)
        told = told_words(SMALL, counts, words, coins, 257, 4)
        self.assertEqual((words, coins, counts), ([numbers(k, 64) for k in range(36)], numbers(4, 90), [1, 1, 1, 1]))
        words[0][0] = words[5][3] = coins[0] = coins[20] = coins[80] = 77
        counts[0], counts[1] = 2, 0
        words.pop()
        self.assertEqual((mixed.quotients(), mixed.word()), told)

    def test_tuples(self):
        words, coins = tuple(tuple(numbers(k, 64)) for k in range(36)), tuple(numbers(4, 90))
        self.check(SMALL, (0, 0, 0, 4), words, coins, 257, 4)


if __name__ == "__main__":
    unittest.main()
