import unittest

from shownrun.errors import BadPrime, BadShape
from shownrun.talk import Talk, held
from tests.samples import SAMPLES, SMALL, SMALL_ROWS, SMALL_WRONG, Teller, coins_of
from tests.values import no_lists, no_numbers, numbers

LAYERS = {4: 2, 8: 3, 16: 4, 32: 5, 64: 6}


class Broken:
    """A teller that lays one wrong value at a step."""

    def __init__(self, teller, step, value):
        self.teller, self.step, self.value, self.asked = teller, step, value, []

    def __call__(self, step, heard):
        self.asked.append((step, list(heard)))
        return self.value if step == self.step else self.teller(step, heard)


def heard_ahead(coins, step):
    """The coins that are heard ahead of a step."""
    return coins[:[0, 16, 91][step] if step < 3 else 89 + step]


class HeldTests(unittest.TestCase):
    def test_true_claims_pass(self):
        for program, rows in SAMPLES:
            p, count = rows.p, len(rows)
            for seed in (None, 1, 2):
                coins = coins_of(count, seed, p)
                looks = numbers(count, 7)
                teller = Teller(program, rows)
                talk = held(program, teller, coins, looks, p=p, rows=count)
                self.assertIsInstance(talk, Talk)
                self.assertEqual((talk.verdict, talk.waits), ("passed", "done"))
                self.assertEqual(talk.heard, [n % p for n in coins])
                self.assertEqual(talk.looked, [n % (16 * count) for n in looks])
                self.assertEqual((talk.program, talk.p, talk.rows, talk.looks), (program, p, count, 7))
                reduced = [n % p for n in coins]
                self.assertEqual(teller.asked, [(step, heard_ahead(reduced, step))
                                                for step in range(LAYERS[count] + 3)])

    def test_wrong_ones_mostly_do_not(self):
        rows = SMALL_ROWS.changed("imm", 2, 10)
        for looks, verdict in ([list(range(60))] * 2, "look"), ([[0, 8, 16, 24, 32, 40, 48, 56]] * 2, "passed"):
            talk = held(SMALL_WRONG, Teller(SMALL_WRONG, rows), coins_of(4), looks[0], p=257, rows=4)
            self.assertEqual(talk.verdict, verdict)
            self.assertEqual(len(talk.looked), len(looks[0]))

    def test_coins_and_looks_as_tuples_below_0_and_greater(self):
        coins = coins_of(4)
        told = held(SMALL, Teller(SMALL, SMALL_ROWS), coins, [1, 2, 3], p=257, rows=4)
        passed = tuple(n - 5 * 257 for n in coins)
        talk = held(looks=(65, -62, 3), coins=passed, teller=Teller(SMALL, SMALL_ROWS), program=SMALL, rows=4, p=257)
        self.assertEqual((talk.heard, talk.looked, talk.verdict), (told.heard, told.looked, told.verdict))
        self.assertEqual([talk.laid(step) for step in range(5)], [told.laid(step) for step in range(5)])
        self.assertEqual((talk.laid(2)[:3], talk.laid(4)), ((88, 192, 188), 132))

    def test_a_verdict_ends_the_talk(self):
        for program, rows in SAMPLES[:3]:
            p, count = rows.p, len(rows)
            layers = LAYERS[count]
            coins, honest = coins_of(count, 1, p), Teller(program, rows)
            words = honest(0, [])[0]
            wrong = [(0, None, "tables"), (0, (words, []), "counts"), (1, words, "later"), (layers + 2, [1], "number")]
            wrong += [(1 + layer, 5, "layer") for layer in range(1, layers + 1)]
            for step, value, verdict in wrong:
                teller = Broken(Teller(program, rows), step, value)
                talk = held(program, teller, coins, [1, 2], p=p, rows=count)
                self.assertEqual((talk.verdict, talk.waits, talk.looked), (verdict, "done", []))
                self.assertEqual(teller.asked, [(at, heard_ahead(coins, at)) for at in range(step + 1)])
                self.assertEqual(talk.heard, heard_ahead(coins, step))

    def test_the_teller_may_change_its_list(self):
        honest = Teller(SMALL, SMALL_ROWS)
        seen = []

        def teller(step, heard):
            seen.append(list(heard))
            made = honest(step, heard)
            heard.append(7)
            heard[0] = 99
            return made

        coins = coins_of(4)
        talk = held(SMALL, teller, coins, [5], p=257, rows=4)
        reduced = [n % 257 for n in coins]
        self.assertEqual((talk.heard, talk.verdict), (reduced, "passed"))
        self.assertEqual(seen, [heard_ahead(reduced, step) for step in range(5)])
        self.assertEqual(coins, coins_of(4))

    def test_what_was_passed_stays(self):
        coins, looks = coins_of(4), [1, -1, 70]
        held(SMALL, Teller(SMALL, SMALL_ROWS), coins, looks, p=257, rows=4)
        self.assertEqual((coins, looks), (coins_of(4), [1, -1, 70]))

    def test_no_looks_and_sixty(self):
        for count in (0, 60):
            talk = held(SMALL, Teller(SMALL, SMALL_ROWS), coins_of(4), [3] * count, p=257, rows=4)
            self.assertEqual((talk.verdict, talk.looked, talk.looks), ("passed", [3] * count, count))


class RefusedTests(unittest.TestCase):
    def refused(self, kind, names, coins, looks, p=257, rows=4):
        asked = []
        with self.assertRaises(kind) as caught:
            held(SMALL, lambda step, heard: asked.append(step), coins, looks, p=p, rows=rows)
        self.assertEqual(vars(caught.exception), names)
        self.assertEqual(asked, [])

    def test_primes_and_rows(self):
        for p, rows in ((193, 8), (257, 16), (257, 5), (258, 4), (65537, 4)):
            for coins, looks in ((coins_of(4), []), ([], [0] * 61), (None, None)):
                self.refused(BadPrime, {"p": p, "rows": rows}, coins, looks, p, rows)
        for value in no_numbers():
            for p, rows in ((value, 4), (257, value)):
                with self.assertRaises(BadPrime) as caught:
                    held(SMALL, None, [], [0] * 61, p=p, rows=rows)
                self.assertIs(caught.exception.p, p)
                self.assertIs(caught.exception.rows, rows)

    def test_coins(self):
        for count in (0, 16, 90, 91, 92, 94, 95, 2048):
            for looks in ([], [0] * 61):
                self.refused(BadShape, {"what": "coins", "count": count}, [1] * count, looks)
                self.refused(BadShape, {"what": "coins", "count": count}, (1,) * count, looks)
        for p, rows in ((769, 8), (769, 16), (7681, 32), (12289, 64)):
            right = 91 + LAYERS[rows]
            for count in (93 if right != 93 else 94, right - 1, right + 1):
                self.refused(BadShape, {"what": "coins", "count": count}, [1] * count, [], p, rows)
        for value in no_lists():
            self.refused(BadShape, {"what": "coins", "count": None}, value, [0] * 61)

    def test_looks(self):
        for count in (61, 62, 100, 2048):
            self.refused(BadShape, {"what": "looks", "count": count}, coins_of(4), [1] * count)
            self.refused(BadShape, {"what": "looks", "count": count}, coins_of(4), (1,) * count)
        for value in no_lists():
            self.refused(BadShape, {"what": "looks", "count": None}, coins_of(4), value)


if __name__ == "__main__":
    unittest.main()
