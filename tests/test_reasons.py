import unittest

from shownrun.audit import Audit
from shownrun.draws import coin_names
from shownrun.errors import NotWaiting
from shownrun.lines import Line, Program
from shownrun.places import Places
from shownrun.polys import Poly
from shownrun.reasons import Found, Missed, Reason, Refused, Unlucky, holds, reason
from shownrun.rows import Rows, is_run
from shownrun.runs import run
from shownrun.talk import Talk, held
from shownrun.tellers import house, of_rows
from tests.samples import SAMPLES, SMALL, SMALL_ROWS, SMALL_WRONG, SQUARE, coins_of, rows_of_run
from tests.talks import (LAYERS, Case, Laying, all_cases, far_words, fold_cases, plain, some_coins, told_bad,
                         two_worths, unfolded, with_coins, without_equations)
from tests.values import no_lists, no_numbers, numbers

CASES = all_cases()


def by_label(*labels):
    return [case for case in CASES if case.label in labels]


def told_reason(case):
    """The reason that a case tells."""
    kind, *rest = case.reason
    if kind == "missed":
        return Missed(told_bad(case.talk))
    if kind == "unlucky":
        return Unlucky(*rest)
    return Found(Audit(case.talk).together()[0], rest[0])


class ClassTests(unittest.TestCase):
    def test_kinds_and_passed(self):
        for made, kind, passed in ((Reason(), "reason", True), (Refused("look", 3), "refused", False),
                                   (Missed([1, 2]), "missed", True), (Unlucky("B", 7), "unlucky", True),
                                   (Found([[1]], [2]), "found", True)):
            self.assertEqual(made.kind, kind)
            self.assertIs(made.passed, passed)
            self.assertIsInstance(made, Reason)
            self.assertIs(type(made).__mro__[-2], Reason)

    def test_attributes(self):
        made = Refused("layer", 2)
        self.assertEqual((made.verdict, made.at), ("layer", 2))
        self.assertEqual((Refused("tables").verdict, Refused("tables").at), ("tables", 0))
        self.assertEqual(Refused(at=4, verdict="look"), Refused("look", 4))
        self.assertEqual((Unlucky("k3", 300).name, Unlucky(worth=300, name="k3").worth), ("k3", 300))
        bad = [5, 3]
        made = Missed(bad)
        bad.append(7)
        self.assertEqual(made.bad, (5, 3))
        self.assertEqual(Missed(bad=(1,)).bad, (1,))
        columns, lot = [[1, 2], [], (3,)], [4]
        made = Found(columns, lot)
        columns[0].append(9)
        columns.pop()
        lot.clear()
        self.assertEqual((made.columns, made.lot), (((1, 2), (), (3,)), (4,)))
        self.assertTrue(all(type(column) is tuple for column in made.columns))
        self.assertEqual(Found(lot=(), columns=()).columns, ())
        for name in ("verdict", "bad"):
            self.assertIsInstance(vars(Refused if name == "verdict" else Missed)[name], property)

    def test_true_and_false_stay(self):
        self.assertIs(Refused("layer", True).at, True)
        self.assertIs(Missed([True]).bad[0], True)
        self.assertIs(Unlucky("B", False).worth, False)
        self.assertIs(Found([[True]], [False]).columns[0][0], True)
        self.assertIs(Found([[True]], [False]).lot[0], False)

    def test_equal(self):
        groups = [[Refused("look", 1), Refused("look", 2), Refused("layer", 1), Refused("look")],
                  [Missed([1, 2]), Missed([2, 1]), Missed([1]), Missed([])],
                  [Unlucky("B", 1), Unlucky("B", 2), Unlucky("z", 1), Unlucky("B", 258)],
                  [Found([[1]], [2]), Found([[1]], [3]), Found([[2]], [2]), Found([[1], []], [2]), Found([[1, 0]], [2])]]
        everything = [made for group in groups for made in group]
        for at, one in enumerate(everything):
            for k, other in enumerate(everything):
                self.assertIs(one == other, at == k)
                self.assertIs(one != other, at != k)
            for value in no_lists() + no_numbers() + [Reason()]:
                self.assertIs(one == value, False)
                self.assertIs(one != value, True)
        self.assertTrue(Missed((1, 2)) == Missed([1, 2]))
        self.assertTrue(Found(((1,),), (2,)) == Found([[1]], [2]))

    def test_mended_rows(self):
        for program, rows in SAMPLES:
            talk = held(program, of_rows(program, rows), coins_of(len(rows), 1, rows.p), [], p=rows.p, rows=len(rows))
            found = reason(talk)
            self.assertEqual(found.mended_rows(rows.p, len(rows)), rows)
            self.assertIsInstance(found.mended_rows(p=rows.p, rows=len(rows)), Rows)
            more = [[n + rows.p for n in column] for column in found.columns]
            self.assertEqual(Found(more, []).mended_rows(rows.p, len(rows)), rows)
            self.assertEqual(Found(found.columns[:29], [1]).mended_rows(rows.p, len(rows)), rows)
        ones = Found([[True, False, 1]] * 29, []).mended_rows(257, 4)
        h = Places(257, 4).row_root
        self.assertEqual(ones.columns, (tuple((1 + h ** (2 * at)) % 257 for at in range(4)),) * 29)


class ReasonTests(unittest.TestCase):
    def test_all_cases(self):
        for case in CASES:
            self.assertEqual(case.talk.verdict, "passed", case.label)
            made, told = reason(case.talk), told_reason(case)
            self.assertTrue(made == told, case.label)
            self.assertIs(type(made), type(told))
            self.assertEqual(made.kind, case.reason[0])
            self.assertIs(holds(case.talk, made), True, case.label)
            self.assertIs(holds(reason=told, talk=case.talk), True, case.label)
            self.assertEqual(reason(talk=case.talk), made)

    def test_missed_at_b_and_at_b_and_2(self):
        for case in by_label("changes of a later column: 8", "changes of a later column: 9"):
            bad = told_bad(case.talk)
            self.assertEqual(len(bad), 16 if case.reason[0] == "found" else 18)
            self.assertIs(holds(case.talk, Missed(bad)), len(bad) == 18)

    def test_found_is_a_run_with_the_used_secrets(self):
        for program, rows in SAMPLES:
            secrets = rows.secrets(program)
            for more in ([], [5, 6]):
                teller = house(program, secrets + more, p=rows.p, rows=len(rows))
                talk = held(program, teller, some_coins(len(rows), 2, rows.p), [1, 2], p=rows.p, rows=len(rows))
                made = reason(talk)
                self.assertEqual((made.kind, made.lot), ("found", ()))
                mended = made.mended_rows(rows.p, len(rows))
                self.assertIs(is_run(program, mended), True)
                self.assertEqual(mended.secrets(program), secrets)
                self.assertEqual(run(program, mended.secrets(program), p=rows.p).used, len(secrets))

    def test_many_rows(self):
        teller = house(SQUARE, [3], p=12289, rows=64)
        talk = held(SQUARE, Laying(teller, (0, 3, 5, 1), (3, 0, 7, 4)), some_coins(64, 2, 12289), [0], p=12289, rows=64)
        made = reason(talk)
        self.assertEqual((made.kind, made.lot), ("found", (5,)))
        self.assertEqual(made.mended_rows(12289, 64).secrets(SQUARE), [3])
        self.assertIs(holds(talk, made), True)

    def test_more_layers(self):
        for case in fold_cases(257, 8) + fold_cases(769, 16)[-2:]:
            self.assertEqual(reason(case.talk), told_reason(case), case.label)
            self.assertIs(holds(case.talk, reason(case.talk)), True)

    def test_great_primes(self):
        for p in (12289, 2013265921):
            rows = two_worths(p)
            case = Case("B", of_rows(SMALL_WRONG, rows), some_coins(4, 1, p, B=0), ("unlucky", "B", 0), [5])
            self.assertEqual(reason(case.talk), Unlucky("B", 0))
            other = Case("no run", of_rows(SMALL_WRONG, rows), some_coins(4, 1, p), ("missed",), [])
            self.assertEqual(reason(other.talk), Missed(told_bad(other.talk)))
            self.assertGreater(len(reason(other.talk).bad), 16)

    def test_not_ahead_of_the_end(self):
        teller, coins = of_rows(SMALL, SMALL_ROWS), coins_of(4)
        talk, step = Talk(SMALL, p=257, rows=4, looks=2), 0
        while talk.waits != "done":
            for what, call in (("reason", lambda: reason(talk)), ("holds", lambda: holds(talk, Missed([]))),
                               ("holds", lambda: holds(talk, None))):
                with self.assertRaises(NotWaiting) as caught:
                    call()
                self.assertEqual(caught.exception.what, what)
            if talk.waits == "coin":
                talk.do(*[("coin", coins[at]) for at in range(len(talk.heard), {0: 16, 16: 91}.get(
                    len(talk.heard), len(talk.heard) + 1))])
            elif talk.waits == "look":
                talk.look(5)
            else:
                talk.lay(teller(step, talk.heard))
                step += 1
        self.assertEqual(reason(talk).kind, "found")
        self.assertIs(holds(talk, None), False)


class OrderTests(unittest.TestCase):
    """Which coin is the first one of several in their lots."""

    def first(self, teller, coins, *names):
        talk = held(teller.program, teller, coins, [], p=teller.p, rows=teller.rows)
        audit, told = Audit(talk), dict(zip(coin_names(teller.rows), talk.heard))
        for name in names:
            self.assertIs(audit.in_lot(name), True, name)
            self.assertIs(holds(talk, Unlucky(name, told[name])), True)
        self.assertEqual(reason(talk), Unlucky(names[0], told[names[0]]))

    def test_early_coins_in_their_order(self):
        both = two_worths(257)
        changed = Program(list(SMALL_WRONG.lines[:2]) + [Line("set", 1, 1, -9, 20), SMALL.lines[3]], 2)
        self.first(of_rows(SMALL_WRONG, both), some_coins(4, 1, 257, B=0), "B")
        # Merged by 0 the touches are alike, so z has an empty lot; k12 comes ahead of k13, and B ahead of both.
        one_more = Program(list(SMALL_WRONG.lines[:2]) + [Line("set", 1, 1, 1, 20), SMALL.lines[3]], 2)
        self.first(of_rows(one_more, both), some_coins(4, 1, 257, B=0, k13=0), "B", "k13")
        self.first(of_rows(one_more, both), some_coins(4, 1, 257, B=7, z=24, k13=0), "z", "k13")
        coins = some_coins(4, 1, 257, B=7, z=24)
        w = sum(coin * field for coin, field in zip([1] + coins[2:15], changed.lines[1].fields(1, p=257))) % 257
        self.first(of_rows(changed, both), with_coins(coins, 4, w=w), "z", "w")
        self.first(of_rows(changed, both), with_coins(with_coins(coins, 4, w=w), 4, B=0), "B", "w")

    def test_mixers_of_equations_ahead_of_early_coins(self):
        rows = two_worths(257)
        teller = of_rows(Program(SMALL_WRONG.lines, 3), rows)
        self.first(teller, some_coins(4, 1, 257, B=0, c19=0), "c19", "B")
        one_more = Program(list(SMALL_WRONG.lines[:2]) + [Line("set", 1, 1, 1, 20), SMALL.lines[3]], 3)
        self.first(of_rows(one_more, rows), some_coins(4, 1, 257, B=0, c19=0, k13=0), "c19", "B", "k13")

    def test_mixers_of_words_ahead_of_early_coins(self):
        # The 29 first words are together, a later one is far, and all mixers of words are 0.
        rows = two_worths(257)
        honest = of_rows(SMALL_WRONG, rows)
        zeros = {"r" + str(n): 0 for n in range(1, 37)}
        coins = without_equations(4, 1, 257, B=0, **zeros)
        changes = [(1, 3, at, 5 + at) for at in range(30)]
        self.first(Laying(honest, *changes), coins, "r33", "B")
        more = [(1, 5, at, 5 + at) for at in range(20, 55)]
        self.first(Laying(honest, *(changes + more)), coins, "r35", "B")

    def test_folds_ahead_of_all(self):
        places, p = Places(257, 4), 257
        zeros = {"r" + str(n): 0 for n in range(2, 37)}
        coins = without_equations(4, 5, p, r1=1, **zeros)
        # Two places part; one is hidden by f0, the other by f1.
        word = [0] * 64
        for at, worth in enumerate(unfolded(places.layer(0), [0] * 32, coins[90], 77)):
            if at in (3, 35):
                word[at] = worth
        layer = [0] * 32
        for at, worth in enumerate(unfolded(places.layer(1), [0] * 16, coins[91], 78)):
            if at in (4, 20):
                layer[at] = worth
        for at, worth in enumerate(unfolded(places.layer(0), layer, coins[90], 79)):
            if at % 32 in (4, 20):
                word[at] = worth
        self.first(plain(SMALL, far_words(p, 4, word), [4, 0, 0, 0], p, 4), coins, "f1", "f0")

    def test_the_last_mixer_of_words_ahead(self):
        zeros = without_equations(4, 4, 257, **{"r" + str(n): 0 for n in range(1, 37)})
        near = [Places(257, 4).stretched(numbers(k, 4)) for k in range(36)]
        near[7] = near[20] = numbers(3, 64)
        self.first(plain(SMALL, near, [1, 1, 1, 1], 257, 4), zeros, "r21")


def wrong_values(case):
    """Values that are no reason of any talk."""
    return no_lists() + no_numbers() + [Reason(), case.talk, case.program, "found", ("missed", ())]


class HoldsTests(unittest.TestCase):
    def check(self, case, value, told=False):
        self.assertIs(holds(case.talk, value), told, (case.label, vars(value) if hasattr(value, "__dict__") else value))

    def test_values_that_are_no_reasons(self):
        for case in by_label("honest 0", "many: the number", "B", "f1", "r11", "c6"):
            for value in wrong_values(case):
                self.check(case, value)
            for verdict in ("passed", "look", "tables", "counts", "later", "layer", "number", ""):
                for at in (0, 1, True, False):
                    self.check(case, Refused(verdict, at))

    def test_altered_founds(self):
        for case in by_label("honest 0", "honest 2", "few: a column", "few: four places", "changes of a layer: 4"):
            made = reason(case.talk)
            columns, lot, p = made.columns, made.lot, case.p
            self.check(case, Found([list(column) for column in columns], list(lot)), True)
            for wrong in (columns[:35], columns + columns[:1], columns[:29], (), columns[::-1], None, 5, "columns", columns[0]):
                self.check(case, Found(wrong, lot))
            for at in (0, 12, 28, 29, 35):
                column = columns[at] or (1,)
                for other in (column + (0,), column[:-1] + (column[-1] + p,), column[:-1] + (column[-1] - p,),
                              column[:-1], column + (0,) * 8, (1,) * 9, column[:-1] + ((column[-1] + 1) % p,),
                              column[:-1] + (True,), column[:-1] + (None,), column[:-1] + ("1",), None, 5, "1"):
                    if other != columns[at]:
                        self.check(case, Found(columns[:at] + (other,) + columns[at + 1:], lot))
            for wrong in (lot + (63,), lot[:-1] if lot else (0,), lot + lot if lot else (1, 1), lot + (lot[:1] or (1, 1)),
                          tuple(range(64)), (True,), None, 5, tuple(n + 64 for n in lot) or (64,),
                          tuple(n - 64 for n in lot) or (-64,)):
                self.check(case, Found(columns, wrong))
            if len(lot) > 1:
                self.check(case, Found(columns, lot[::-1]))
                self.check(case, Found(columns, (False,) + lot[1:]))
                self.check(case, Found(columns, lot[:1] + (True,) + lot[2:]))
            self.check(case, Missed(told_bad(case.talk)))
            self.check(case, Missed([]))

    def test_the_prime_as_a_coefficient(self):
        case = by_label("honest 0")[0]
        made, tried = reason(case.talk), 0
        for at, column in enumerate(made.columns):
            for k, worth in enumerate(column):
                if worth == 0:
                    other = column[:k] + (case.p,) + column[k + 1:]
                    self.check(case, Found(made.columns[:at] + (other,) + made.columns[at + 1:], made.lot))
                    tried += 1
        self.assertTrue(tried > 0)

    def test_polynomials_of_the_greatest_degree(self):
        """Without the mixers of equations, a word may be any of a degree below K that has the worths of a run."""
        honest, coins = of_rows(SMALL, SMALL_ROWS), without_equations(4, 6, 257)
        words = list(honest.words + honest(1, coins))
        code = Places(257, 4).layer(0)
        more = Poly([-1, 0, 0, 0, 1], p=257) * Poly([3, 0, 5, 7], p=257)
        self.assertEqual(more.degree, 7)
        for at in (0, 22, 28, 33):
            changed = list(words)
            changed[at] = [n + m for n, m in zip(words[at], code.word(more))]
            case = Case("degree", plain(SMALL, changed, [1, 1, 1, 1], 257, 4), coins, ("found", ()), [1, 2])
            made = reason(case.talk)
            self.assertEqual((made.kind, made.lot, len(made.columns[at])), ("found", (), 8))
            self.assertEqual(made.mended_rows(257, 4), SMALL_ROWS)
            self.check(case, made, True)
            longer = made.columns[at] + (1,)
            self.check(case, Found(made.columns[:at] + (longer,) + made.columns[at + 1:], ()))

    def test_faults_at_b_places(self):
        """Where a word is not mixed, it may have faults at b places; at more the words are not together."""
        honest, coins = of_rows(SMALL, SMALL_ROWS), without_equations(4, 6, 257, r5=0)
        words = list(honest.words + honest(1, coins))
        for count in (16, 17):
            changed = list(words)
            changed[4] = [n + (at < count) for at, n in enumerate(words[4])]
            case = Case("faults", plain(SMALL, changed, [1, 1, 1, 1], 257, 4), coins, None, [1, 2])
            made = reason(case.talk)
            if count == 16:
                self.assertEqual((made.kind, made.lot), ("found", tuple(range(16))))
                self.check(case, made, True)
                told = made
            else:
                self.assertEqual(made, Unlucky("r5", 0))
                self.check(case, Found(told.columns, tuple(range(17))))

    def test_true_as_a_coefficient(self):
        """Where a coefficient is 1 or 0, True or False in its place makes the reason wrong."""
        case = by_label("honest 0")[0]
        made = reason(case.talk)
        tried = 0
        for at, column in enumerate(made.columns):
            for k, worth in enumerate(column):
                if worth in (0, 1):
                    other = column[:k] + (bool(worth),) + column[k + 1:]
                    self.check(case, Found(made.columns[:at] + (other,) + made.columns[at + 1:], made.lot))
                    tried += 1
        self.assertTrue(tried > 0)

    def test_founds_of_talks_with_other_reasons(self):
        for case in CASES:
            near = Audit(case.talk).together()
            if near is None or case.reason[0] == "found":
                continue
            made = Found(*near)
            self.check(case, made, is_run(case.program, made.mended_rows(case.p, case.rows)))
        # Here the counts are wrong, a coin hides it, and the rows are a run nevertheless.
        case = by_label("w and counts")[0]
        self.check(case, Found(*Audit(case.talk).together()), True)
        case = by_label("w")[0]
        self.check(case, Found(*Audit(case.talk).together()), False)

    def test_altered_misses(self):
        for case in by_label("many: a layer", "many: the example", "changes of a layer: 5", "two runs"):
            bad = told_bad(case.talk)
            self.check(case, Missed(list(bad)), True)
            for wrong in (bad[1:], bad[:-1], bad[::-1], bad + bad[-1:], bad[:1] + bad, (), tuple(range(64)) + (64,), None, 5,
                          "bad", tuple(n + 64 for n in bad), bad[:5], (bad,), bad[:-1] + ("63",), bad[:-1] + (None,)):
                self.check(case, Missed(wrong))
            for at, place in enumerate(bad):
                if place in (0, 1):
                    self.check(case, Missed(bad[:at] + (bool(place),) + bad[at + 1:]))

    def test_unlucky_ones_without_order(self):
        for case in by_label("honest 0", "many: the example", "changes of a layer: 5", "B", "w", "k2 and k3", "c6", "c6 and c9",
                             "r36", "f1", "f0 at a place", "w and counts"):
            audit, heard = Audit(case.talk), case.talk.heard
            names = coin_names(case.rows)
            if case.label in ("many: the example", "r36", "f1"):
                names = names[:54] + names[-6:]
            for name in names:
                worth = heard[coin_names(case.rows).index(name)]
                lies = audit.in_lot(name)
                self.check(case, Unlucky(name, worth), lies)
                if lies:
                    for other in (worth + case.p, worth - case.p, worth + 1, True, False, None, str(worth), (worth,)):
                        self.check(case, Unlucky(name, other))
            for name in ("", "c", "c39", "r0", "f3", "k14", "b", None, 0, True, ("B",), ["B"], case.talk):
                for worth in (0, 1, heard[0]):
                    self.check(case, Unlucky(name, worth))

    def test_true_in_the_place_of_a_coin(self):
        rows = rows_of_run(SMALL, [], 257, 4)
        # The coin 1 lies in its lot: k12 and k13 are both 1.
        program = Program(list(SMALL.lines[:2]) + [Line("set", 1, 1, 2, 8), SMALL.lines[3]], 2)
        case = Case("one", of_rows(program, rows), some_coins(4, 5, 257, k12=1, k13=1), ("unlucky", "k13", 1))
        self.assertEqual(reason(case.talk), Unlucky("k13", 1))
        self.check(case, Unlucky("k13", 1), True)
        self.check(case, Unlucky("k13", True))
        case = by_label("B")[0]
        self.check(case, Unlucky("B", 0), True)
        self.check(case, Unlucky("B", False))


class RefusedTests(unittest.TestCase):
    def check(self, talk, told):
        made = reason(talk)
        self.assertEqual(made, told)
        self.assertIs(type(made), Refused)
        self.assertEqual((made.passed, made.kind), (False, "refused"))
        self.assertIs(holds(talk, made), True)
        self.assertIs(holds(talk, Refused(told.verdict, told.at)), True)
        for wrong in (Refused(told.verdict, told.at + 1), Refused(told.verdict, told.at - 1), Refused("passed", told.at),
                      Refused(told.verdict + " ", told.at), Refused(None, told.at), Refused(told.verdict, None),
                      Refused([told.verdict], told.at), Refused(told.verdict, str(told.at)), Missed([]), Missed(list(range(64))),
                      Unlucky("B", talk.heard[0] if talk.heard else 0), Found([], []), Found([[]] * 36, []), Reason(), None,
                      told.verdict, (told.verdict, told.at), talk):
            self.assertIs(holds(talk, wrong), False)
        for verdict in ("tables", "counts", "later", "layer", "number", "look"):
            self.assertIs(holds(talk, Refused(verdict, told.at)), verdict == told.verdict)
        if told.at < 2:
            self.assertIs(holds(talk, Refused(told.verdict, bool(told.at))), False)

    def test_wrong_shapes(self):
        for program, rows in SAMPLES[:5]:
            p, count = rows.p, len(rows)
            honest, coins = of_rows(program, rows), coins_of(count, 1, p)
            layers = LAYERS[count]
            wrong = [(0, None, "tables", 0), (0, (honest.words, []), "counts", 0), (1, honest.words, "later", 0),
                     (layers + 2, None, "number", 0)]
            wrong += [(1 + layer, [1], "layer", layer) for layer in range(1, layers + 1)]
            for step, value, verdict, at in wrong:
                talk = held(program, lambda k, heard: value if k == step else honest(k, heard), coins, [1], p=p, rows=count)
                self.assertEqual(talk.verdict, verdict)
                self.check(talk, Refused(verdict, at))
                self.assertEqual(reason(talk).at, at)

    def test_looks(self):
        for label, looks, at in (("few: a column", [0, 1, 5, 6], 2), ("few: a column", [5], 0), ("few: a column", [0, 37, 5], 1),
                                 ("many: the number", [3, 3], 0), ("two runs", [0, 8, 16, 1, 2], None),
                                 ("r36", [1, 2], None), ("many: the example", [0] * 58 + [1, 2], 58)):
            case = by_label(label)[0]
            talk = held(case.program, case.teller, case.coins, looks, p=case.p, rows=case.rows)
            told = [talk.passes(look) for look in looks]
            if all(told):
                self.assertEqual(talk.verdict, "passed")
                self.assertEqual(reason(talk), reason(case.talk))
                continue
            self.assertEqual(talk.verdict, "look")
            self.assertIn(at, (None, told.index(False)))
            self.check(talk, Refused("look", told.index(False)))

    def test_kept_lists(self):
        talk = held(SMALL, lambda step, heard: None, coins_of(4), [], p=257, rows=4)
        self.check(talk, Refused("tables"))


class FactTests(unittest.TestCase):
    """Each talk that passes has a reason, whatever is laid ([40])."""

    def test_tables_that_look_like_chance(self):
        seen = set()
        for seed in range(12):
            told = numbers(seed, 10)
            rows = SMALL_ROWS
            for at in range(told[0] % 3):
                name = ("dv", "imm", "t", "pc", "stop", "A2", "V3", "xa")[told[1 + at] % 8]
                rows = rows.changed(name, told[4 + at] % 4, told[7])
            coins = [n % 2 * (seed % 4 == 1) for n in numbers(seed + 50, 93)] if seed % 2 else coins_of(4, seed)
            talk = held(SMALL, of_rows(SMALL, rows), coins, [], p=257, rows=4)
            made = reason(talk)
            seen.add(made.kind)
            self.assertIs(holds(talk, made), True)
            if made.kind == "found":
                self.assertIs(is_run(SMALL, made.mended_rows(257, 4)), True)
        self.assertEqual(seen, {"missed", "unlucky", "found"})


if __name__ == "__main__":
    unittest.main()
