import unittest

from shownrun.audit import Audit
from shownrun.draws import coin_names
from shownrun.errors import BadShape, NotWaiting, TooMany, UnknownName
from shownrun.lines import Line, Program
from shownrun.near import together
from shownrun.places import Places
from shownrun.polys import Poly
from shownrun.rows import Rows, is_run
from shownrun.talk import Talk, held
from shownrun.tellers import house, of_rows
from tests.samples import COLUMNS, SAMPLES, SMALL, SMALL_ROWS, SQUARE, coins_of
from tests.talks import (LAYERS, Case, Laying, all_cases, equation_cases, far_words, field_cases, fold_cases, mix_cases,
                         only_first_word, part_of, plain, some_coins, told_bad, told_fails, told_lot, told_words,
                         touch_cases, unfolded, with_coins, without_equations)
from tests.values import no_lists, no_numbers, numbers

CASES = all_cases()


def by_label(*labels):
    return [case for case in CASES if case.label in labels]


class WordTests(unittest.TestCase):
    def test_words_of_layers(self):
        for case in CASES:
            told, quotients = told_words(case.talk)
            audit = Audit(case.talk)
            for layer, word in enumerate(told):
                self.assertEqual(audit.word(layer), tuple(word))
                self.assertIs(type(audit.word(layer)), tuple)
                self.assertEqual(audit.word(layer=layer), tuple(word))
            self.assertEqual(audit.quotients(), quotients)
            self.assertEqual(audit.column_words(), case.talk.laid(0)[0] + case.talk.laid(1))
            self.assertEqual((type(audit.quotients()), type(audit.column_words())), (tuple, tuple))
            self.assertEqual(len(audit.column_words()), 36)

    def test_good_and_bad_places(self):
        for case in CASES:
            audit, told = Audit(case.talk), told_bad(case.talk)
            bad, size = audit.bad_places(), 16 * case.rows
            self.assertEqual(bad, told)
            self.assertIs(type(bad), tuple)
            self.assertEqual(len(bad) % 2, 0)
            # A look passes exactly if its place is good.
            self.assertEqual(audit.good(0), tuple(at for at in range(size) if case.talk.passes(at)))
            self.assertEqual(sorted(audit.good(0) + bad), list(range(size)))
            last = LAYERS[case.rows] + 1
            self.assertEqual(audit.good(last), tuple(range(8)))
            for layer in range(last):
                good = audit.good(layer=layer)
                self.assertIs(type(good), tuple)
                self.assertEqual(list(good), sorted(set(good)))
                half = size >> (layer + 1)
                self.assertTrue(all(at % half in audit.good(layer + 1) for at in good))
                self.assertEqual({at + half for at in good if at < half}, {at for at in good if at >= half})

    def test_layers_that_there_are_not(self):
        for rows in (4, 8):
            case = [case for case in CASES if case.rows == rows][0]
            audit = Audit(case.talk)
            for value in no_numbers() + [-1, LAYERS[rows] + 2, 64, 9999999999]:
                for call in (audit.word, audit.good):
                    with self.assertRaises(BadShape) as caught:
                        call(value)
                    self.assertEqual(caught.exception.what, "layer")
                    self.assertIs(caught.exception.count, value)


class MendedTests(unittest.TestCase):
    def test_together_and_mended(self):
        for case in CASES:
            audit, places = Audit(case.talk), Places(case.p, case.rows)
            words = case.talk.laid(0)[0] + case.talk.laid(1)
            for count in (29, 36):
                told = together(places.layer(0), words[:count], 4 * case.rows)
                if told is None:
                    self.assertIsNone(audit.together(count))
                    self.assertIsNone(audit.mended(count))
                    continue
                self.assertEqual(audit.together(count), (tuple(poly.coefficients for poly in told[0]), told[1]))
                self.assertEqual(audit.mended(count), tuple(places.column(poly) for poly in told[0]))
                self.assertEqual(audit.mended(count=count), audit.mended(count))
                for items in audit.together(count) + (audit.mended(count),):
                    self.assertIs(type(items), tuple)
                self.assertTrue(all(type(item) is tuple for item in audit.together(count)[0] + audit.mended(count)))
            self.assertEqual(audit.together(), audit.together(count=36))
            self.assertEqual(audit.mended(), audit.mended(36))

    def test_of_honest_rows(self):
        for program, rows in SAMPLES:
            teller = of_rows(program, rows)
            talk = held(program, teller, coins_of(len(rows), 2, rows.p), [], p=rows.p, rows=len(rows))
            audit = Audit(talk)
            self.assertEqual(audit.mended(29), rows.columns)
            self.assertEqual(audit.mended()[:29], rows.columns)
            self.assertEqual(audit.together(29)[1], ())
            self.assertIs(is_run(program, Rows(audit.mended(29), p=rows.p)), True)
            for coefficients in audit.together()[0]:
                self.assertLessEqual(len(coefficients), len(rows))
                self.assertTrue(not coefficients or coefficients[-1] != 0)

    def test_faults_at_up_to_b_places(self):
        teller, coins = of_rows(SMALL, SMALL_ROWS), coins_of(4, 2)
        for count in (0, 1, 15, 16, 17, 30):
            changes = [(0, at % 29, 2 * at, 1 + at) for at in range(count)]
            audit = Audit(held(SMALL, Laying(teller, *changes), coins, [], p=257, rows=4))
            if count > 16:
                self.assertEqual((audit.together(29), audit.together(36), audit.mended(29)), (None, None, None))
                continue
            self.assertEqual(audit.together(29)[1], tuple(range(0, 2 * count, 2)))
            self.assertEqual(audit.mended(29), SMALL_ROWS.columns)
        # The first 29 words are together, all 36 are not.
        changes = [(0, 4, at, 1) for at in range(10)] + [(1, 4, at, 1) for at in range(20, 28)]
        audit = Audit(held(SMALL, Laying(teller, *changes), coins, [], p=257, rows=4))
        self.assertEqual((audit.together(29)[1], audit.together(36)), (tuple(range(10)), None))
        self.assertEqual((audit.mended(29), audit.mended(36)), (SMALL_ROWS.columns, None))
        self.assertEqual(audit.in_lot("c38"), False)

    def test_polynomials_of_a_degree_up_to_k(self):
        """Any polynomial of a degree below K may be told, also one of T or more."""
        places = Places(257, 4)
        poly = Poly([3, 0, 0, 0, 0, 1, 0, 2], p=257)
        word = places.layer(0).word(poly)
        changes = [(0, 5, at, worth) for at, worth in enumerate(word)]
        teller = Laying(of_rows(SMALL, Rows([[0] * 4] * 29, p=257)), *changes)
        audit = Audit(held(SMALL, teller, coins_of(4, 2), [], p=257, rows=4))
        self.assertEqual(audit.together(29)[0][5], poly.coefficients)
        self.assertEqual(audit.mended(29)[5], places.column(poly))


class LotTests(unittest.TestCase):
    def check_lots(self, case, names):
        audit, told_names = Audit(case.talk), coin_names(case.rows)
        for name in names:
            told = told_lot(case.talk, name)
            lot = audit.coin_lot(name)
            self.assertEqual(lot, told, (case.label, name))
            self.assertIs(type(lot), tuple)
            self.assertLessEqual(len(lot), part_of(name, case.rows), (case.label, name))
            lies = audit.in_lot(name)
            self.assertIs(lies, case.talk.heard[told_names.index(name)] in told, (case.label, name))
            self.assertEqual((audit.coin_lot(name=name), audit.in_lot(name=name)), (lot, lies))

    def test_all_names(self):
        for case in by_label("honest 0", "few: a column", "B", "k12 and k13", "c6 and c9", "f0 at a place"):
            self.check_lots(case, coin_names(case.rows))
        for case in by_label("many: the example", "r11", "r36", "f1"):
            self.check_lots(case, coin_names(case.rows)[:54] + ["r1", "r2", "r10", "r11", "r12", "r36", "f0", "f1", "f2"])

    def test_early_and_last_names(self):
        for case in CASES:
            if case.p < 300:
                names = coin_names(case.rows)
                self.check_lots(case, names[:16] + names[20:23] + names[34:36] + names[53:54] + names[-3:])

    def test_more_rows(self):
        for at, case in enumerate(fold_cases(257, 8)):
            self.check_lots(case, ["B", "k1", "w", "c38", "f0", "f1", "f2", "f3"] + (["r1", "r36"] if at == 1 else []))
        program, rows = SAMPLES[3]
        teller = of_rows(program, rows.changed("dv", 2, 9).changed("imm", 3, 4))
        case = Case("changed rows", teller, some_coins(8, 4, rows.p), None)
        self.check_lots(case, ["B", "z", "k1", "k13", "w", "c1", "c10", "c14", "c38", "f0", "f3"])

    def test_lots_with_members(self):
        """For each kind of coin there are talks whose lot is empty, has one member, or as many as its part."""
        seen = {}
        for case in CASES:
            if case.p > 800:
                continue
            audit = Audit(case.talk)
            for name in ("B", "z", "k1", "k3", "k13", "w", "c6", "c9", "c38", "f0", "f1", "f2"):
                seen.setdefault(name[0], set()).add(len(audit.coin_lot(name)))
        for letter in "Bzkwcf":
            self.assertIn(0, seen[letter], letter)
            self.assertTrue(max(seen[letter]) > 0, letter)
        self.assertIn(1, seen["c"])

    def lot_of(self, name, teller, coins, p):
        talk = held(teller.program, teller, coins, [], p=p, rows=4)
        lot = Audit(talk).coin_lot(name)
        self.assertEqual(lot, told_lot(talk, name))
        self.assertIs(Audit(talk).in_lot(name), talk.heard[coin_names(4).index(name)] in lot)
        return lot

    def test_lots_of_touches_with_as_many_members_as_there_may_be(self):
        # Times each twelfth root of 1, the twelfth roots of 1 are these roots again.
        roots = [n for n in range(1, 193) if pow(n, 12, 193) == 1]
        self.assertEqual(len(roots), part_of("B", 4))
        columns = {name: [0] * 4 for name in COLUMNS[:29]}
        for at, root in enumerate(roots):
            columns["dxy"[at % 3] + "v"][at // 3] = root
            columns["A" + "123"[at % 3]][at // 3] = root
        teller = of_rows(SMALL, Rows([columns[name] for name in COLUMNS[:29]], p=193))
        for coin in (0, roots[3], 192):
            self.assertEqual(self.lot_of("B", teller, some_coins(4, 1, 193, B=coin), 193), tuple(roots))
        self.assertEqual(self.lot_of("z", teller, some_coins(4, 1, 193, B=roots[3]), 193), ())
        # Two products of twelve are equal at eleven worths at most.
        columns["xa"][0], columns["A1"][3] = 50, 51
        columns = {name: column if name[0] in "dxyA" else [0] * 4 for name, column in columns.items()}
        for at in range(12):
            columns["dxy"[at % 3] + "a"][at // 3] = columns["A" + "123"[at % 3]][at // 3] = 10 + at
            columns["dxy"[at % 3] + "v"][at // 3] = 0
        columns["A1"][0] = 99
        teller = of_rows(SMALL, Rows([columns[name] for name in COLUMNS[:29]], p=193))
        self.assertEqual(self.lot_of("z", teller, some_coins(4, 1, 193), 193), tuple(range(11, 22)))

    def test_lots_of_fields_with_as_many_members_as_there_may_be(self):
        roots = [n for n in range(1, 257) if pow(n, 4, 257) == 1]
        coins = some_coins(4, 1, 257, k12=1)
        # The lines have the roots as the mix of all fields but imm, which is 0; the rows have them as imm.
        lines = [Line("ask", 0, 0, root - at, 0) for at, root in enumerate(roots)]
        columns = {name: [0] * 4 for name in COLUMNS[:29]}
        columns["imm"] = list(roots)
        rows = Rows([columns[name] for name in COLUMNS[:29]], p=257)
        teller = of_rows(Program(lines, 2), rows, [1, 1, 1, 1])
        for coin in (roots[1], 7):
            self.assertEqual(self.lot_of("k13", teller, with_coins(coins, 4, k13=coin), 257), tuple(roots))
        self.assertEqual(self.lot_of("w", teller, with_coins(coins, 4, k13=roots[1]), 257), ())
        self.assertEqual(self.lot_of("k12", teller, coins, 257), ())
        columns["imm"], columns["c"] = [0] * 4, [line.c + at for at, line in enumerate(lines)]
        columns["c"][3] += 5
        rows = Rows([columns[name] for name in COLUMNS[:29]], p=257)
        teller = of_rows(Program(lines, 2), rows, [1, 1, 1, 1])
        self.assertEqual(self.lot_of("w", teller, coins, 257), tuple(sorted(roots[:3])))

    def test_lots_of_words_with_as_many_members_as_there_may_be(self):
        # One word is 1 at b + 1 places, and the other one has as many worths there that it may take away.
        worths, coins = list(range(3, 37, 2)), without_equations(4, 5, 257, r1=1, r2=9)
        words = [[0] * 64 for _ in range(36)]
        words[0][10:27], words[1][10:27] = [-n for n in worths], [1] * 17
        for coin in (9, 10, 35, 36):
            lot = self.lot_of("r2", plain(SMALL, words, [1, 1, 1, 1], 257, 4), with_coins(coins, 4, r2=coin), 257)
            self.assertEqual((lot, len(lot)), (tuple(worths), part_of("r2", 4)))
        # Likewise the even and the odd part of a layer, at b_i + 1 places.
        coins, places = only_first_word(4, 6, 257), Places(257, 4)
        for layer in range(3):
            half = 32 >> layer
            count = part_of("f" + str(layer), 4)
            even, odd = [-n for n in worths[:count]] + [0] * (half - count), [1] * count + [0] * (half - count)
            xs = places.layer(layer).places[:half]
            word = [low + x * high for low, high, x in zip(even, odd, xs)]
            word += [low - x * high for low, high, x in zip(even, odd, xs)]
            for ahead in reversed(range(layer)):
                word = unfolded(places.layer(ahead), word, coins[90 + ahead], 5)
            teller, name = plain(SMALL, far_words(257, 4, word), [1, 1, 1, 1], 257, 4), "f" + str(layer)
            for coin in (3, 4, worths[count - 1], worths[count - 1] + 1):
                heard = with_coins(coins, 4, **{name: coin})
                self.assertEqual(self.lot_of(name, teller, heard, 257), tuple(worths[:count]))

    def test_a_lot_hangs_only_on_what_was_there_before(self):
        """With other coins behind a coin, and other layers, its lot is the same; any member hides the fault."""
        for case in by_label("B", "z", "k10", "k12 and k13", "w", "c6 and c9", "c19"):
            name = case.reason[1]
            names = coin_names(4)
            lot = Audit(case.talk).coin_lot(name)
            self.assertIn(case.reason[2], lot)
            at = names.index(name)
            other = case.coins[:at + 1] + [n + 5 for n in case.coins[at + 1:]]
            talk = held(case.program, case.teller, other, [], p=case.p, rows=4)
            self.assertEqual(Audit(talk).coin_lot(name), lot)
            for worth in lot:
                talk = held(case.program, case.teller, with_coins(case.coins, 4, **{name: worth}), [], p=case.p, rows=4)
                self.assertIs(Audit(talk).in_lot(name), True)
                self.assertEqual(Audit(talk).bad_places(), ())
            miss = [n for n in range(257) if n not in lot][5]
            talk = held(case.program, case.teller, with_coins(case.coins, 4, **{name: miss}), [], p=case.p, rows=4)
            self.assertIs(Audit(talk).in_lot(name), False)
            self.assertNotEqual(Audit(talk).bad_places(), ())

    def test_each_equation_may_be_the_last_that_fails(self):
        """One word is another column: the last equation that fails has a lot, all other ones have none."""
        seen, coins = set(), some_coins(4, 7, 257)
        honest = of_rows(SMALL, SMALL_ROWS)
        words = [list(word) for word in honest.words + honest(1, coins)]
        for number in range(36):
            for at in (0, 1, 3):
                column = [0] * 4
                column[at] = 5 + number
                more = Places(257, 4).stretched(column)
                changed = list(words)
                changed[number] = [n + m for n, m in zip(words[number], more)]
                teller = plain(SMALL, changed, [1, 1, 1, 1], 257, 4)
                # All mixers are 0 but that of the equation that fails last, and so the sum is 0 for 0 alone.
                for zero in (True, False):
                    heard = without_equations(4, 7, 257) if zero else coins
                    talk = held(SMALL, teller, heard, [], p=257, rows=4)
                    audit = Audit(talk)
                    lots = {n: audit.coin_lot("c" + str(n)) for n in range(1, 39)}
                    full = [n for n in lots if lots[n]]
                    last = max([n for n in range(1, 39) if told_fails(talk, audit.mended(), n)] or [0])
                    self.assertEqual(full, [last] if zero and last else full)
                    self.assertTrue(full in ([], [last]))
                    for n in full:
                        seen.add(n)
                        hidden = with_coins(heard, 4, **{"c" + str(n): lots[n][0]})
                        told = held(SMALL, teller, hidden, [], p=257, rows=4)
                        self.assertEqual((Audit(told).bad_places(), lots[n] == (0,)), ((), zero or lots[n] == (0,)))
        self.assertTrue(len(seen) >= 12, seen)

    def test_great_primes(self):
        for p in (7681, 2013265921):
            cases = touch_cases(p) + field_cases(p) + equation_cases(p) + mix_cases(p) + fold_cases(p, 4)
            for case in cases:
                audit, names = Audit(case.talk), coin_names(4)
                self.assertEqual(case.talk.verdict, "passed")
                order = names[16:][::-1] + names[:16]
                lucky = [name for name in order if audit.in_lot(name)]
                self.assertEqual(lucky[:1], [case.reason[1]], case.label)
                for name in ("B", "k1", "w", "c1", "c38", "r1", "r36", "f0", "f2"):
                    with self.assertRaises(TooMany) as caught:
                        audit.coin_lot(name)
                    self.assertEqual((caught.exception.what, caught.exception.most), ("worths", 800))

    def test_primes_up_to_800(self):
        for p in (193, 769):
            for case in touch_cases(p) + field_cases(p) + equation_cases(p) + mix_cases(p)[:1] + fold_cases(p, 4)[:2]:
                audit = Audit(case.talk)
                lot = audit.coin_lot(case.reason[1])
                self.assertIn(case.reason[2], lot, case.label)
                if case.reason[1][0] in "Bkcf":
                    self.assertEqual(lot, told_lot(case.talk, case.reason[1]))

    def test_names_that_there_are_not(self):
        for p in (257, 12289):
            talk = held(SMALL, house(SMALL, p=p, rows=4), some_coins(4, 1, p), [], p=p, rows=4)
            audit = Audit(talk)
            values = no_lists() + no_numbers() + ["", "b", "Z", "k0", "k14", "c0", "c39", "r0", "r37", "f3", "f-1", "f",
                                                  "k01", "w1", " B", "B ", ["B"], ("z",), talk, SMALL]
            for value in values:
                for call in (audit.in_lot, audit.coin_lot):
                    with self.assertRaises(UnknownName) as caught:
                        call(value)
                    self.assertIs(caught.exception.name, value)
        audit = Audit(held(SQUARE, house(SQUARE, [3], p=769), coins_of(16, 1, 769), [], p=769, rows=16))
        self.assertIs(audit.in_lot("f4"), False)
        with self.assertRaises(UnknownName):
            audit.in_lot("f5")


class MomentTests(unittest.TestCase):
    def deeds(self):
        teller, coins, made = of_rows(SMALL, SMALL_ROWS), coins_of(4, 2), []
        talk, step = Talk(SMALL, p=257, rows=4, looks=2), 0
        while talk.waits != "look":
            if talk.waits == "coin":
                deed = ("coin", coins[len(talk.heard)])
            else:
                deed = ("lay", teller(step, talk.heard))
                step += 1
            talk.do(deed)
            made.append(deed)
        return made

    def test_not_ahead_of_the_number(self):
        talk = Talk(SMALL, p=257, rows=4, looks=2)
        for deed in self.deeds():
            with self.assertRaises(NotWaiting) as caught:
                Audit(talk)
            self.assertEqual(caught.exception.what, "audit")
            talk.do(deed)
        self.assertIs(talk.layered, True)
        self.assertEqual(Audit(talk=talk).bad_places(), ())

    def test_wrong_shapes(self):
        deeds = self.deeds()
        for many in (0, 17, 93, 95, 97):
            talk = Talk(SMALL, p=257, rows=4, looks=2)
            talk.do(*deeds[:many])
            self.assertIs(talk.lay(None), False)
            with self.assertRaises(NotWaiting) as caught:
                Audit(talk)
            self.assertEqual(caught.exception.what, "audit")

    def test_a_talk_that_goes_on(self):
        talk = Talk(SMALL, p=257, rows=4, looks=2)
        talk.do(*self.deeds())
        audit = Audit(talk)
        self.assertEqual((talk.waits, talk.verdict), ("look", None))
        told = [audit.word(0), audit.good(0), audit.bad_places(), audit.together(), audit.coin_lot("z")]
        late = Audit(talk)
        talk.do(("look", 5), ("look", 6))
        self.assertEqual(talk.verdict, "passed")
        behind = Audit(talk)
        for one in (audit, late, behind):
            self.assertEqual([one.word(0), one.good(0), one.bad_places(), one.together(), one.coin_lot("z")], told)
        self.assertEqual((talk.looked, talk.waits), ([5, 6], "done"))

    def test_nothing_is_shared(self):
        case = by_label("few: a column")[0]
        audit = Audit(case.talk)
        heard = case.talk.heard
        told = [audit.coin_lot(name) for name in ("B", "f0", "c38")]
        heard[0] = 99
        for _ in range(2):
            self.assertEqual([audit.coin_lot(name) for name in ("B", "f0", "c38")], told)
            self.assertEqual((audit.quotients(), audit.column_words()), (Audit(case.talk).quotients(),
                                                                        Audit(case.talk).column_words()))


class FactTests(unittest.TestCase):
    def test_where_all_words_are_together_each_mix_lot_is_empty(self):
        for case in by_label("honest 2", "few: four places", "c6", "B"):
            audit = Audit(case.talk)
            for number in (1, 18, 36):
                self.assertEqual(audit.coin_lot("r" + str(number)), ())
                self.assertIs(audit.in_lot("r" + str(number)), False)

    def test_a_passing_talk_has_a_run_or_a_lucky_coin(self):
        """With at most b bad places and no coin in its lot the words are together and their rows are a run."""
        for case in CASES:
            audit = Audit(case.talk)
            lucky = [name for name in coin_names(case.rows) if audit.in_lot(name)]
            if len(audit.bad_places()) <= 4 * case.rows and not lucky:
                self.assertEqual(case.reason[0], "found")
                self.assertIs(is_run(case.program, Rows(audit.mended(29), p=case.p)), True)
            else:
                self.assertNotEqual(case.reason[0], "found")

    def test_coins_without_equations_are_no_fault_of_honest_rows(self):
        coins = without_equations(4, 3, 257)
        audit = Audit(held(SMALL, of_rows(SMALL, SMALL_ROWS), coins, [1], p=257, rows=4))
        self.assertEqual(set(audit.quotients()), {0})
        self.assertFalse(any(audit.in_lot(name) for name in coin_names(4)))


if __name__ == "__main__":
    unittest.main()
