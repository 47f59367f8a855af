import unittest

from shownrun.draws import Draws
from shownrun.equations import later
from shownrun.errors import BadPrime, Broken, TooMany
from shownrun.folds import fold
from shownrun.lines import Line, Program
from shownrun.mixed import Mixed
from shownrun.notes import Notes
from shownrun.places import Places
from shownrun.polys import Poly
from shownrun.rows import Rows, filled
from shownrun.runs import run
from shownrun.scheme import compiled
from shownrun.talk import Talk, held
from shownrun.tellers import Changed, Tables, house, of_rows
from tests.samples import (CELLS, CHOICE, SAMPLES, SMALL, SMALL_ROWS, SMALL_WRONG, SQUARE, Teller, coins_of,
                           counts_of, program_of, rows_of_run)
from tests.values import FITTING, LISTED, SIZES, numbers

LAYERS = {4: 2, 8: 3, 16: 4, 32: 5, 64: 6}
WRONG_ROWS = SMALL_ROWS.changed("imm", 2, 10)


def all_laid(teller, rows, coins):
    """What a teller lays at all steps, asked with the coins heard ahead of each."""
    heads = [0, 16] + [90 + layer for layer in range(1, LAYERS[rows] + 2)]
    return [teller(step, coins[:head]) for step, head in enumerate(heads)]


def told_tables(program, words, counts, seven, coins, p, rows):
    """What tables lay at all steps, by the words of the document."""
    places = Places(p, rows)
    reduced = [tuple(n % p for n in word) for word in words], [tuple(n % p for n in word) for word in seven]
    made = [(tuple(reduced[0]), tuple(counts)), tuple(reduced[1])]
    word = Mixed(program, counts, reduced[0] + reduced[1], coins[:90], p=p, rows=rows).word()
    for layer in range(LAYERS[rows] + 1):
        word = fold(places.layer(layer), word, coins[90 + layer])
        made.append(word)
    made[-1] = word[0]
    return made


def is_deep_tuple(value):
    return isinstance(value, int) or (type(value) is tuple and all(is_deep_tuple(item) for item in value))


def is_deep_list(value):
    return isinstance(value, int) or (type(value) is list and all(is_deep_list(item) for item in value))


class TablesTests(unittest.TestCase):
    def test_words_as_later_columns(self):
        for p, rows in ((193, 4), (257, 4), (257, 8), (2013265921, 8)):
            words, seven = [numbers(k, 16 * rows) for k in range(29)], [numbers(k, 16 * rows) for k in range(50, 57)]
            counts, coins = [1, 0, rows - 3, 2], numbers(rows, 91 + LAYERS[rows])
            teller = Tables(SMALL, words, counts, seven, p=p, rows=rows)
            told = told_tables(SMALL, words, counts, seven, coins, p, rows)
            self.assertEqual((teller.program, teller.p, teller.rows), (SMALL, p, rows))
            self.assertEqual((teller.words, teller.counts), told[0])
            self.assertTrue(is_deep_tuple(teller.words) and is_deep_tuple(teller.counts))
            made = all_laid(teller, rows, coins)
            self.assertEqual(made, told)
            self.assertTrue(all(is_deep_tuple(laid) for laid in made))
            # Equal calls, in another order and with further coins, which are not looked at.
            for step in reversed(range(len(told))):
                self.assertEqual(teller(step, tuple(coins)), told[step])
                self.assertEqual(teller(heard=list(coins), step=step), told[step])
            same = Tables(later=tuple(seven), counts=tuple(counts), words=tuple(words), program=SMALL, rows=rows, p=p)
            self.assertEqual(all_laid(same, rows, [n % p for n in coins]), told)

    def test_a_function_as_later_columns(self):
        p, rows = 257, 4
        words, coins = [numbers(k, 64) for k in range(29)], numbers(7, 93)
        asked = []

        def seven(early):
            asked.append(list(early))
            made = [[early[k] + n for n in range(64)] for k in range(7)]
            early.clear()
            return made

        teller = Tables(SMALL, words, [1, 1, 1, 1], seven, p=p, rows=rows)
        reduced = [n % p for n in coins]
        told_seven = [[reduced[k] + n for n in range(64)] for k in range(7)]
        told = told_tables(SMALL, words, [1, 1, 1, 1], told_seven, coins, p, rows)
        before = list(coins)
        for _ in range(2):
            for step in range(5):
                self.assertEqual(teller(step, coins), told[step])
        self.assertEqual(coins, before)
        self.assertTrue(asked and all(early == reduced[:16] for early in asked))
        self.assertEqual(all_laid(teller, 4, coins), told)
        talk = held(SMALL, teller, coins, [3], p=p, rows=rows)
        self.assertEqual([talk.laid(step) for step in range(5)], told)

    def test_what_the_function_returns_may_be_changed_behind(self):
        given = [[k] * 64 for k in range(7)]
        teller = Tables(SMALL, [[1] * 64] * 29, [4, 0, 0, 0], lambda early: given, p=257, rows=4)
        laid = teller(1, [5] * 16)
        given[0][0] = 99
        self.assertEqual(laid, tuple((k,) * 64 for k in range(7)))
        self.assertEqual(given[0][0], 99)

    def test_what_was_passed_may_be_changed_behind(self):
        words, counts, seven = [[k] * 64 for k in range(29)], [1, 1, 1, 1], [[k] * 64 for k in range(7)]
        teller = Tables(SMALL, words, counts, seven, p=257, rows=4)
        told = all_laid(teller, 4, coins_of(4))
        words[0][0] = counts[0] = seven[0][0] = 77
        words.pop()
        seven.clear()
        counts.pop()
        self.assertEqual(all_laid(teller, 4, coins_of(4)), told)
        self.assertEqual(teller.counts, (1, 1, 1, 1))

    def test_with_all_p_and_rows(self):
        for p, rows in FITTING:
            if rows > 16:
                continue
            program = program_of(["stop"], 0)
            words = [[(k * at) % 50 for at in range(16 * rows)] for k in range(29)]
            coins = numbers(p, 91 + LAYERS[rows])
            talk = held(program, Tables(program, words, [rows], words[:7], p=p, rows=rows), coins, [0], p=p, rows=rows)
            self.assertEqual([talk.laid(step) for step in range(LAYERS[rows] + 3)],
                             told_tables(program, words, [rows], words[:7], coins, p, rows))
            # The number is the worth of the last fold at place 0, and all layers are folds: place 0 passes.
            self.assertEqual(talk.verdict, "passed")


class OfRowsTests(unittest.TestCase):
    def test_of_runs(self):
        for program, rows in SAMPLES:
            p, count = rows.p, len(rows)
            teller, told = of_rows(program, rows), Teller(program, rows)
            self.assertIsInstance(teller, Tables)
            self.assertEqual((teller.program, teller.p, teller.rows), (program, p, count))
            self.assertEqual(teller.words, tuple(told.words))
            self.assertEqual(teller.counts, tuple(counts_of(program, rows)))
            for seed in (None, 4):
                coins = coins_of(count, seed, p)
                made = all_laid(teller, count, coins)
                self.assertEqual(made[0], (tuple(told.words), tuple(told.counts)))
                self.assertEqual(made[1:], [tuple(told(1, coins)) if step == 1 else told(step, coins)
                                            for step in range(1, LAYERS[count] + 3)])
                self.assertTrue(all(is_deep_tuple(laid) for laid in made))

    def test_with_counts(self):
        for counts in ([4, 0, 0, 0], (0, 1, 1, 2), [1, 1, 1, 1]):
            teller = of_rows(SMALL, SMALL_ROWS, counts)
            self.assertEqual(teller.counts, tuple(counts))
            told = Teller(SMALL, SMALL_ROWS, list(counts))
            coins = coins_of(4)
            self.assertEqual(all_laid(teller, 4, coins)[2:], [told(step, coins) for step in range(2, 5)])
            self.assertEqual(of_rows(counts=counts, rows=SMALL_ROWS, program=SMALL).counts, tuple(counts))
        self.assertEqual(of_rows(SMALL, SMALL_ROWS, None).counts, (1, 1, 1, 1))
        given = [4, 0, 0, 0]
        teller = of_rows(SMALL, SMALL_ROWS, given)
        given[0] = 9
        self.assertEqual(teller.counts, (4, 0, 0, 0))

    def test_of_any_rows(self):
        for p, count in ((193, 4), (257, 8), (769, 16)):
            rows = Rows([numbers(k, count) for k in range(29)], p=p)
            coins, places = coins_of(count, 3, p), Places(p, count)
            teller = of_rows(CHOICE, rows)
            self.assertEqual(teller.counts, tuple(rows.counted(CHOICE)))
            seven = [places.stretched(column) for column in later(rows, Draws(coins[:16], p=p))]
            words = [places.stretched(column) for column in rows.columns]
            told = told_tables(CHOICE, words, rows.counted(CHOICE), seven, coins, p, count)
            self.assertEqual(all_laid(teller, count, coins), told)

    def test_primes_that_do_not_fit(self):
        for p in LISTED:
            for count in SIZES:
                if (p, count) in FITTING:
                    continue
                rows = Rows([[0] * count] * 29, p=p)
                for counts in (None, [count, 0, 0, 0]):
                    with self.assertRaises(BadPrime) as held_error:
                        of_rows(SMALL, rows, counts)
                    self.assertEqual((held_error.exception.p, held_error.exception.rows), (p, count))

    def test_the_example(self):
        coins = coins_of(4)
        talk = held(SMALL, of_rows(SMALL, SMALL_ROWS), coins, list(range(60)), p=257, rows=4)
        self.assertEqual(talk.verdict, "passed")
        self.assertEqual([talk.mixed().worth_at(at) for at in (0, 1, 32)], [51, 34, 90])
        self.assertEqual((talk.heard[90], talk.laid(2)[:3], talk.laid(4)), (195, (88, 192, 188), 132))
        self.assertEqual([talk.passes(at) for at in range(64)], [True] * 64)
        self.assertEqual(SMALL.closing([1, 1, 1, 1], Draws(coins[:16], p=257)), 165)
        self.assertEqual([later(SMALL_ROWS, Draws(coins[:16], p=257))[k][3] for k in (2, 5)], [4, 4])

    def test_the_wrong_one_of_the_example(self):
        talk = held(SMALL_WRONG, of_rows(SMALL_WRONG, WRONG_ROWS), coins_of(4), [], p=257, rows=4)
        self.assertEqual([talk.mixed().worth_at(at) for at in (0, 1, 32)], [138, 97, 104])
        self.assertEqual((talk.laid(2)[:3], talk.laid(4)), ((198, 12, 145), 153))
        folded = fold(Places(257, 4).layer(2), talk.laid(3), talk.heard[92])
        self.assertEqual(folded, (153, 1, 171, 209, 104, 203, 191, 22))
        self.assertEqual(sum(talk.passes(at) for at in range(64)), 8)


class HouseTests(unittest.TestCase):
    def test_true_claims_pass(self):
        for program, rows in SAMPLES:
            p, count = rows.p, len(rows)
            secrets = rows.secrets(program)
            for size in SIZES:
                if size < count or (p, size) not in FITTING or size > 32:
                    continue
                teller = house(program, secrets, p=p, rows=size)
                self.assertIsInstance(teller, Tables)
                made = filled(run(program, secrets, p=p), size)
                self.assertEqual((teller.p, teller.rows, teller.counts), (p, size, tuple(made.counted(program))))
                coins = coins_of(size, count + size, p)
                talk = held(program, teller, coins, [1, 7], p=p, rows=size)
                self.assertEqual(talk.verdict, "passed")
                if size < 32:
                    self.assertTrue(all(talk.passes(at) for at in range(16 * size)))
                again = of_rows(program, made)
                self.assertEqual(all_laid(again, size, coins), all_laid(teller, size, coins))

    def test_the_most_rows(self):
        program = Program([Line("set", 0, 0, 0, 5)] * 63 + [Line("stop")], 1)
        teller = house(program, p=12289)
        self.assertEqual((teller.rows, teller.counts), (64, (1,) * 64))
        talk = held(program, teller, coins_of(64, 1, 12289), [5, 1000], p=12289, rows=64)
        self.assertEqual(talk.verdict, "passed")

    def test_t_left_out(self):
        for program, secrets, rows in ((SMALL, (), 4), (SQUARE, [3, 9], 16), (CHOICE, [0], 8), (CELLS, [4], 16),
                                       (program_of(["stop"], 0), (), 4)):
            told = house(program, secrets, p=769, rows=rows)
            for teller in (house(program, secrets, p=769), house(program, secrets, p=769, rows=None),
                           house(secrets=tuple(secrets), program=program, rows=None, p=769)):
                self.assertEqual((teller.rows, teller.words, teller.counts), (rows, told.words, told.counts))

    def test_each_error(self):
        many = Program([Line("set", 0, 0, 0, 5)] * 65 + [Line("stop")], 1)
        full = Program([Line("set", 0, 0, 0, 5)] * 64 + [Line("stop")], 1)
        wide = program_of(["set 0 0 0 1", "set 250 250 250 1", "stop"], 0)
        for rows in (None,) + SIZES:
            self.refused(Broken, {"line": 1, "why": "secrets"}, SQUARE, [], 193, rows)
            self.refused(Broken, {"line": 6, "why": "cell"}, SQUARE, [4], 193, rows)
            self.refused(TooMany, {"what": "rows", "most": 64}, many, [], 193, rows)
            for program in (full, wide):
                self.refused(TooMany, {"what": "rows", "most": rows or 64}, program, [], 257, rows)
        for rows in (4, 8):
            self.refused(TooMany, {"what": "rows", "most": rows}, SQUARE, [3], 257, rows)
            self.refused(TooMany, {"what": "rows", "most": rows}, SQUARE, [3], 193, rows)
        self.refused(BadPrime, {"p": 257, "rows": 16}, SQUARE, [3], 257, None)
        self.refused(BadPrime, {"p": 193, "rows": 16}, SQUARE, [3], 193, 16)
        self.refused(BadPrime, {"p": 257, "rows": 64}, SMALL, [], 257, 64)
        self.refused(BadPrime, {"p": 193, "rows": 8}, CHOICE, [0], 193, None)
        self.refused(BadPrime, {"p": 7681, "rows": 64}, SMALL, [], 7681, 64)

    def refused(self, kind, names, program, secrets, p, rows):
        with self.assertRaises(kind) as caught:
            house(program, secrets, p=p, rows=rows)
        self.assertEqual(vars(caught.exception), names)

    def test_a_compiled_text(self):
        notes = Notes.read("main\nask x\ntell sq(x) + 1\nend\nfun sq a\ngive a * a\nend\n")
        for p in (769, 998244353):
            program = compiled(notes, [50])
            for secret in (7, -7, 7 + p):
                teller = house(program, [secret], p=p)
                talk = held(program, teller, coins_of(16, secret % 5, p), [0, 100, 255], p=p, rows=16)
                self.assertEqual(talk.verdict, "passed")
            with self.assertRaises(Broken):
                house(program, [8], p=p)


class Odd:
    """A teller that lays lists which it keeps, and changes the list that it is handed."""

    def __init__(self, laid):
        self.kept = laid
        self.asked = []

    def __call__(self, step, heard):
        self.asked.append((step, list(heard)))
        heard.append(99)
        heard[0] = 98
        return self.kept[step]


class ChangedTests(unittest.TestCase):
    def setUp(self):
        self.coins = coins_of(4, 5)
        self.honest = of_rows(SMALL, SMALL_ROWS)
        self.told = all_laid(self.honest, 4, self.coins)

    def as_lists(self, value):
        return value if isinstance(value, int) else [self.as_lists(item) for item in value]

    def test_without_changes(self):
        for teller in (Changed(self.honest), Changed(teller=self.honest), Changed(self.honest, (1, 0, 0, 0))):
            made = all_laid(teller, 4, self.coins)
            self.assertEqual([self.as_lists(laid) for laid in made], [self.as_lists(laid) for laid in self.told])
            words, counts = made[0]
            self.assertTrue(all(is_deep_list(part) for part in [words, counts] + made[1:]))
            self.assertEqual(held(SMALL, teller, self.coins, [1, 2, 3], p=257, rows=4).verdict, "passed")

    def test_at_each_step(self):
        for step, word, place, worth in ((0, 0, 0, 1), (0, 28, 63, -5), (0, 13, 17, 9999999999), (1, 0, 0, 1),
                                         (1, 6, 63, 300), (2, 0, 31, 7), (3, 0, 0, -1), (4, 0, 0, 256)):
            told = [self.as_lists(laid) for laid in self.told]
            if step == 0:
                told[0][0][word][place] += worth
            elif step == 1:
                told[1][word][place] += worth
            elif step == 4:
                told[4] += worth
            else:
                told[step][place] += worth
            for change in ((step, word, place, worth), [step, word, place, worth]):
                made = all_laid(Changed(self.honest, change), 4, self.coins)
                self.assertEqual([self.as_lists(laid) for laid in made], told)
            self.assertEqual(all_laid(self.honest, 4, self.coins), self.told)

    def test_several_add_up(self):
        changes = [(0, 3, 5, 100), (0, 3, 5, 200), (0, 3, 6, -1), (0, 4, 5, 1), (2, 0, 1, 5), (2, 0, 1, -5), (4, 0, 0, 1),
                   (4, 0, 0, 1), (1, 2, 2, 1000)]
        told = [self.as_lists(laid) for laid in self.told]
        told[0][0][3][5] += 300
        told[0][0][3][6] -= 1
        told[0][0][4][5] += 1
        told[1][2][2] += 1000
        told[4] += 2
        made = all_laid(Changed(self.honest, *changes), 4, self.coins)
        self.assertEqual([self.as_lists(laid) for laid in made], told)
        # On top of one another, in any order.
        teller = self.honest
        for change in reversed(changes):
            teller = Changed(teller, change)
        self.assertEqual(all_laid(teller, 4, self.coins), made)
        self.assertEqual(all_laid(Changed(Changed(self.honest, *changes[:4]), *changes[4:]), 4, self.coins), made)

    def test_what_another_teller_lays_is_not_changed(self):
        kept = [self.as_lists(laid) for laid in self.told]
        kept[0] = tuple(kept[0])
        odd = Odd(kept)
        teller = Changed(odd, (0, 1, 2, 3), (1, 1, 2, 3), (2, 0, 2, 3))
        before = [self.as_lists(laid) for laid in kept]
        for step in range(5):
            coins = list(self.coins)
            laid = teller(step, coins)
            self.assertEqual(coins, self.coins)
            self.assertEqual([self.as_lists(one) for one in kept], before)
            if step == 0:
                self.assertIsNot(laid[0], kept[0][0])
                self.assertIsNot(laid[1], kept[0][1])
                self.assertTrue(all(one is not other for one, other in zip(laid[0], kept[0][0])))
                laid[0][0][0] = laid[1][0] = 77
                laid[0].pop()
            elif step == 1:
                self.assertTrue(all(one is not other for one, other in zip(laid, kept[1])))
                laid[0][0] = 77
                laid.pop()
            elif step < 4:
                self.assertIsNot(laid, kept[step])
                laid[0] = 77
                laid.pop()
            self.assertEqual([self.as_lists(one) for one in kept], before)
        self.assertEqual(odd.asked, [(step, self.coins) for step in range(5)])

    def test_the_changes_may_be_changed_behind(self):
        change = [2, 0, 1, 5]
        teller = Changed(self.honest, change)
        told = teller(2, self.coins)
        change[3] = 6
        self.assertEqual(teller(2, self.coins), told)

    def test_changes_follow_what_is_laid(self):
        """The layers of a changed teller are those of the other one, not folds of what is changed."""
        talk = held(SMALL, Changed(self.honest, (0, 0, 5, 1)), self.coins, [], p=257, rows=4)
        self.assertEqual([talk.laid(step) for step in range(1, 5)], self.told[1:])
        # The column pc at place 5 is looked at from the places 5 and 5 - 16, and from those opposite to them.
        failing = [at for at in range(64) if not talk.passes(at)]
        self.assertTrue(failing and set(failing) <= {5, 37, 53, 21})
        talk = held(SMALL, Changed(self.honest, (4, 0, 0, 1)), self.coins, [0], p=257, rows=4)
        self.assertEqual(talk.verdict, "look")
        self.assertEqual(talk.laid(4), (self.told[4] + 1) % 257)

    def test_by_position_and_name(self):
        teller = Changed(self.honest, (2, 0, 1, 5))
        self.assertEqual(teller(step=2, heard=tuple(self.coins)), teller(2, self.coins))


class AskedTests(unittest.TestCase):
    """What tellers of the package are asked in a talk, and when ([43])."""

    def test_once_for_each_step(self):
        for program, rows in SAMPLES[:5]:
            p, count = rows.p, len(rows)
            coins = coins_of(count, 6, p)
            teller, asked = of_rows(program, rows), []

            def asking(step, heard):
                asked.append((step, list(heard)))
                laid = teller(step, heard)
                heard.clear()
                return laid

            talk = held(program, asking, coins, [0, 1], p=p, rows=count)
            self.assertEqual(talk.verdict, "passed")
            heads = [0, 16] + [90 + layer for layer in range(1, LAYERS[count] + 2)]
            self.assertEqual(asked, [(step, coins[:head]) for step, head in enumerate(heads)])

    def test_step_by_step(self):
        teller, talk = house(SQUARE, [3], p=769), Talk(SQUARE, p=769, rows=16, looks=2)
        coins, step = coins_of(16, 8, 769), 0
        while talk.waits != "done":
            if talk.waits == "coin":
                talk.coin(coins[len(talk.heard)])
            elif talk.waits == "look":
                talk.look(77 + len(talk.looked))
            else:
                self.assertIs(talk.lay(teller(step, talk.heard)), True)
                step += 1
        self.assertEqual((talk.verdict, step), ("passed", 7))


class MixedWordTests(unittest.TestCase):
    """The mixed word of honest rows is that of a polynomial of a degree below K ([30])."""

    def test_degrees(self):
        for program, rows in SAMPLES:
            places = Places(rows.p, len(rows))
            for seed in (1, 2):
                coins = coins_of(len(rows), seed, rows.p)
                teller = of_rows(program, rows)
                mixed = Mixed(program, teller.counts, teller.words + teller(1, coins), coins[:90], p=rows.p,
                              rows=len(rows))
                told = Poly.through(list(zip(places.layer(0).places, mixed.word())), p=rows.p)
                self.assertLess(told.degree, places.degree)

    def test_wrong_rows_have_a_greater_degree(self):
        rows = rows_of_run(SMALL, [], 257, 4).changed("dv", 1, 8)
        teller, coins = of_rows(SMALL, rows), coins_of(4, 1)
        mixed = Mixed(SMALL, teller.counts, teller.words + teller(1, coins), coins[:90], p=257, rows=4)
        told = Poly.through(list(zip(Places(257, 4).layer(0).places, mixed.word())), p=257)
        self.assertGreaterEqual(told.degree, 8)


if __name__ == "__main__":
    unittest.main()
