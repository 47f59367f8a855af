"""The conventions of [2] over the whole program: values of any kind, where an error, None or False is listed for them."""

import unittest

from shownrun import errors
from shownrun.audit import Audit
from shownrun.bags import Bag
from shownrun.books import book, read_book
from shownrun.bound import bound
from shownrun.codes import Code
from shownrun.day import Day, day
from shownrun.draws import Draws, coin_names
from shownrun.errors import (BadBook, BadLine, BadPrime, BadProgram, BadShape, NotNear, NotWaiting, TooMany, UnknownName)
from shownrun.folds import fold_lot, in_fold_lot
from shownrun.lines import Line, Program
from shownrun.machine import Machine
from shownrun.mixed import Mixed
from shownrun.near import in_line_lot, in_mix_lot, line_lot, mended, mix_lot, near_worths, together, within
from shownrun.notes import Notes
from shownrun.places import Places
from shownrun.polys import Poly
from shownrun.primes import fits, generator, is_number
from shownrun.reasons import Found, Missed, Reason, Refused, Unlucky, holds, reason
from shownrun.rows import Rows
from shownrun.runs import Run, run
from shownrun.scheme import compiled
from shownrun.seals import Clash, Opening, Tree, clash, opens
from shownrun.sealed import Sealed, sealed_passes
from shownrun.talk import Talk, held
from shownrun.tellers import Changed, Tables, house, of_rows
from shownrun.walking import Walked
from tests.samples import SMALL, SMALL_ROWS, Teller, coins_of
from tests.values import Thing

TEXT = "main\nask x\ntell x + 1\nend\n"


def digest(text):
    return str(sum(ord(letter) * (at + 7) for at, letter in enumerate(text)) % 1000003)


TALK = held(SMALL, house(SMALL, p=257), coins_of(4), [5], p=257, rows=4)


def objects():
    """An object of each class of the package."""
    sealed = Sealed.of(TALK, digest)
    return [Poly([1], p=257), Poly(p=257), Code([1, -1], 2, p=257), Bag(), Bag((1, 2)), Opening(0, "a", ()), Clash("a", "b"),
            Tree(["a"], digest), Places(257, 4), Notes.read(TEXT), Walked([1], 2), Line("add"), SMALL, Machine(SMALL, p=257),
            run(SMALL, p=257), Run(SMALL, [(0, 3, 5)], [], 0, p=257), SMALL_ROWS, Draws([1] * 16, p=257), TALK.mixed(), TALK,
            Talk(SMALL, p=257, rows=4, looks=0), of_rows(SMALL, SMALL_ROWS), Changed(of_rows(SMALL, SMALL_ROWS)), Audit(TALK),
            Reason(), Refused("look", 1), Missed([1]), Unlucky("B", 1), Found([[1]], [2]), sealed,
            Day([1], SMALL, TALK, None, 5), BadLine("op")]


def plain_values():
    """Values of any kind that are no objects of the package."""
    return [None, True, False, "", "all", "B", "0", "look", [], (), [[]], ((),), [None], [True, 1], [[1, 2], [3]], ("a", "b"),
            [[[[[[[[1]]]]]]]], Thing(), [Thing()], [SMALL, TALK]]


def any_values(*kinds):
    """Values of all kinds but the ones that are told."""
    made = plain_values() + [-1, 9999999999, -999999999999, 999999999999] + objects()
    return [value for value in made if "number" not in kinds or isinstance(value, bool) or not isinstance(value, int)]


class AnyValueTests(unittest.TestCase):
    def refused(self, kind, name, value, call):
        """An error of just this kind that keeps the value as it was passed."""
        with self.assertRaises(kind) as caught:
            call()
        self.assertIs(type(caught.exception), kind)
        if name is not None:
            self.assertIs(getattr(caught.exception, name), value)

    def test_primes(self):
        for value in any_values():
            self.assertIs(is_number(value, 5, 100), False)
            self.assertIs(fits(value, 4), False)
            self.assertIs(fits(257, value), False)
            self.refused(UnknownName, "name", value, lambda: generator(value))
            for call in (lambda: Places(value, 4), lambda: bound(p=value, rows=4, looks=0),
                         lambda: Talk(SMALL, p=value, rows=4, looks=0), lambda: held(SMALL, None, [], [], p=value, rows=4)):
                self.refused(BadPrime, "p", value, call)
            for call in (lambda: Places(257, value), lambda: bound(p=257, rows=value, looks=0),
                         lambda: Talk(SMALL, p=257, rows=value, looks=0), lambda: held(SMALL, None, [], [], p=257, rows=value)):
                self.refused(BadPrime, "rows", value, call)

    def test_near_and_folds(self):
        code, word = Places(257, 4).layer(2), [0] * 16
        for value in any_values():
            for call in (lambda: mended(code, word, value), lambda: within(code, word, value), lambda: together(code, [], value),
                         lambda: near_worths(code, word, word, value), lambda: line_lot(code, word, word, value),
                         lambda: in_line_lot(code, word, word, value, 0), lambda: mix_lot(code, word, [word], [0], 1, value),
                         lambda: in_mix_lot(code, word, [word], [0], 1, value), lambda: fold_lot(code, word, value),
                         lambda: in_fold_lot(code, word, 0, value)):
                self.refused(BadShape, "count", value, call)
        self.refused(NotNear, None, None, lambda: mended(code, list(range(1, 9)) * 2, 0))

    def test_names_and_numbers_of_layers(self):
        places, audit = Places(257, 4), Audit(TALK)
        for value in any_values():
            for call in (lambda: places.layer(value), lambda: audit.word(value), lambda: audit.good(value)):
                self.refused(BadShape, "count", value, call)
            self.refused(UnknownName, "name", value, lambda: TALK.laid(value))
            if value != "all":
                self.refused(UnknownName, "name", value, lambda: places.divisor(value, 0))
            if value != "B":
                for call in (lambda: audit.in_lot(value), lambda: audit.coin_lot(value)):
                    self.refused(UnknownName, "name", value, call)
            for call in (lambda: SMALL_ROWS.column(value), lambda: SMALL_ROWS.changed(value, 0, 0)):
                self.refused(UnknownName, "name", value, call)
            self.refused(BadShape, "count", value, lambda: Tree(["a", "b"], digest).opening(value))

    def length(self, value):
        return len(value) if isinstance(value, (list, tuple)) else None

    def test_lists(self):
        for value in any_values():
            count = self.length(value)
            for what, call in (("coins", lambda: Draws(value, p=257)), ("columns", lambda: Rows(value, p=257)),
                               ("coins", lambda: held(SMALL, None, value, [], p=257, rows=4)),
                               ("coins", lambda: day(TEXT, [5], value, [], p=257))):
                with self.assertRaises(BadShape) as caught:
                    call()
                self.assertEqual((caught.exception.what, caught.exception.count), (what, count))
            if count is None:
                for call in (lambda: held(SMALL, None, [1] * 93, value, p=257, rows=4),
                             lambda: day(TEXT, [5], [1] * 94, value, p=257)):
                    with self.assertRaises(BadShape) as caught:
                        call()
                    self.assertEqual((caught.exception.what, caught.exception.count), ("looks", None))
            if count != 1:
                with self.assertRaises(BadShape) as caught:
                    compiled(Notes.read(TEXT), value)
                self.assertEqual((caught.exception.what, caught.exception.count), ("outputs", count))
            with self.assertRaises(BadShape) as caught:
                Rows([value] + [[0] * 4] * 28, p=257)
            self.assertEqual((caught.exception.what, caught.exception.count), ("rows", count))
            if count not in (1, 2):
                with self.assertRaises(BadShape) as caught:
                    Tree(value, digest)
                self.assertEqual((caught.exception.what, caught.exception.count), ("leaves", count))
        for count in (17, 28, 30, 93, 2048, 4096):
            for call in (lambda: Draws([1] * count, p=257), lambda: Rows([[0] * 4] * count, p=257),
                         lambda: Tree(["a"] * (count + 1), digest), lambda: compiled(Notes.read(TEXT), [1] * count)):
                with self.assertRaises(BadShape) as caught:
                    call()
                self.assertIn(caught.exception.count, (count, count + 1))

    def test_lines_and_programs(self):
        for value in any_values():
            self.refused(BadLine, None, None, lambda: Line(value))
            for field in ("a", "b", "c", "imm"):
                if not isinstance(value, int) or isinstance(value, bool) or abs(value) > 9999999999:
                    with self.assertRaises(BadLine) as caught:
                        Line("add", **{field: value})
                    self.assertEqual(caught.exception.field, field)
            if not isinstance(value, Line):
                self.refused(BadLine, None, None, lambda: Program([Line("stop"), value]))
            self.refused(BadShape, "count", value, lambda: Program([Line("stop")], value))
            if not isinstance(value, (list, tuple)) or not value:
                with self.assertRaises(BadShape) as caught:
                    Program(value)
                self.assertEqual((caught.exception.what, caught.exception.count), ("lines", self.length(value)))
            else:
                self.refused(BadLine, None, None, lambda: Program(value))
            if not isinstance(value, int) or isinstance(value, bool) or abs(value) > 9999999999:
                with self.assertRaises(BadLine) as caught:
                    compiled(Notes.read(TEXT), [value])
                self.assertEqual(caught.exception.field, "imm")
        self.refused(TooMany, None, None, lambda: Program([None] * 121))

    def test_texts_and_books(self):
        for value in any_values():
            if isinstance(value, str):
                continue
            for call in (lambda: Notes.read(value), lambda: day(value, [], [], [], p=257)):
                with self.assertRaises(BadProgram) as caught:
                    call()
                self.assertEqual((caught.exception.line, caught.exception.why), (0, "form"))
            with self.assertRaises(BadBook) as caught:
                read_book(SMALL, value)
            self.assertEqual(caught.exception.line, 0)

    def test_looks_of_a_talk(self):
        for value in any_values():
            self.refused(BadShape, "count", value, lambda: Talk(SMALL, p=257, rows=4, looks=value))

    def test_what_is_laid(self):
        teller, coins = Teller(SMALL, SMALL_ROWS), coins_of(4)
        for step, verdict in enumerate(("tables", "later", "layer", "layer", "number")):
            talk = Talk(SMALL, p=257, rows=4, looks=0)
            for before in range(step + 1):
                while talk.waits == "coin":
                    talk.coin(coins[len(talk.heard)])
                if before < step:
                    talk.lay(teller(before, talk.heard))
            for value in any_values("number") if verdict == "number" else any_values():
                trial = talk.twin()
                self.assertEqual(talk.peek(("lay", value)), verdict)
                self.assertIs(trial.lay(value), False)
                self.assertEqual(trial.verdict, verdict)
                self.assertEqual(reason(trial), Refused(verdict, {2: 1, 3: 2}.get(step, 0)))

    def test_openings_and_reasons(self):
        tree, sealed = Tree(["a", "b"], digest), Sealed.of(TALK, digest)
        right = tree.opening(1)
        for value in any_values():
            self.assertIs(opens(tree.root, value, 2, digest), False)
            self.assertIsNone(clash(tree.root, value, right, 2, digest))
            self.assertIsNone(clash(tree.root, right, value, 2, digest))
            for opening in (Opening(value, "b", right.path), Opening(1, value, right.path), Opening(1, "b", value),
                            Opening(1, "b", [value])):
                self.assertIs(opens(tree.root, opening, 2, digest), False)
            self.assertIs(sealed_passes(SMALL, sealed.changed(0, 3, value), digest), False)
            self.assertIs(holds(TALK, value), False)

    def test_items_of_words_and_counts(self):
        words, counts = Teller(SMALL, SMALL_ROWS)(0, [])
        talk = Talk(SMALL, p=257, rows=4, looks=0)
        for value in any_values("number"):
            bad = [list(word) for word in words]
            bad[20][30] = value
            self.assertEqual(talk.peek(("lay", (bad, counts))), "tables")
            self.assertEqual(talk.peek(("lay", [words, [1, 1, 1, value]])), "counts")
            self.assertEqual(talk.peek(("lay", [words, value])), "counts")
        self.assertIsNone(talk.peek(("lay", [words, tuple(counts)])))


class EqualTests(unittest.TestCase):
    def test_nothing_of_another_class(self):
        for at, one in enumerate(objects()):
            for k, other in enumerate(objects()):
                if type(one) is not type(other):
                    self.assertIs(one == other, False)
                    self.assertIs(one != other, True)
            for value in plain_values():
                self.assertIs(one == value, False)
                self.assertIs(value == one, False)

    def test_equal_things_are_made_twice(self):
        other = {Machine, Mixed, Talk, Tables, Changed, Audit, Reason, Tree, Day, BadLine}
        for one, two in zip(objects(), objects()):
            if type(one) not in other and one is not two:
                self.assertTrue(one == two, one)
                self.assertFalse(one != two)


class SharedTests(unittest.TestCase):
    """Lists that were returned may be changed, and nothing else changes."""

    def test_returned_lists_are_new(self):
        machine = Machine(SMALL, p=257)
        calls = [lambda: coin_names(4), SMALL.listing, SMALL_ROWS.register_rows, SMALL_ROWS.triples, SMALL_ROWS.touch_pairs,
                 SMALL_ROWS.sorted_touches, lambda: SMALL_ROWS.counted(SMALL), lambda: SMALL_ROWS.secrets(SMALL),
                 Bag((1,), (2,)).listed, lambda: TALK.heard, lambda: TALK.looked, TALK.done_deeds]
        self.assertEqual(machine.steps, 0)
        for call in calls:
            made = call()
            self.assertIs(type(made), list)
            told = list(made)
            made.append("more")
            self.assertEqual(call(), told)
            self.assertIsNot(call(), made)

    def test_all_words_of_an_audit_are_tuples(self):
        audit = Audit(TALK)
        for value in (audit.word(0), audit.word(1), audit.word(3), audit.good(0), audit.bad_places(), audit.quotients(),
                      audit.column_words(), audit.together(), audit.mended(), audit.coin_lot("B"), audit.coin_lot("f0")):
            self.assertIs(type(value), tuple)

    def test_a_book_and_a_reason_change_nothing(self):
        talk = held(SMALL, house(SMALL, p=257), coins_of(4), [5], p=257, rows=4)
        before = (talk.heard, talk.looked, talk.verdict, [talk.laid(step) for step in range(5)], repr(talk))
        reason(talk), book(talk), Sealed.of(talk, digest), Audit(talk).together(), holds(talk, None)
        self.assertEqual((talk.heard, talk.looked, talk.verdict, [talk.laid(step) for step in range(5)], repr(talk)), before)


class ErrorTests(unittest.TestCase):
    def test_not_waiting_changes_nothing(self):
        talk = Talk(SMALL, p=257, rows=4, looks=1)
        for call, what in ((lambda: Audit(talk), "audit"), (lambda: reason(talk), "reason"), (lambda: holds(talk, 5), "holds"),
                           (lambda: Sealed.of(talk, digest), "sealed"), (talk.mixed, "mixed"), (lambda: talk.coin(1), "coin"),
                           (lambda: talk.look(1), "look"), (lambda: talk.passes(1), "passes")):
            with self.assertRaises(NotWaiting) as caught:
                call()
            self.assertEqual(caught.exception.what, what)
        self.assertEqual((talk.waits, talk.heard), ("tables", []))

    def test_each_error_is_one_of_three(self):
        bases = {errors.InvalidError: ("BadProgram", "BadLine", "BadPrime", "BadShape", "BadBook", "TooMany"),
                 errors.UnknownError: ("NotNear", "UnknownName"), errors.StateError: ("Broken", "NotWaiting")}
        for base, names in bases.items():
            for name in names:
                self.assertEqual(getattr(errors, name).__bases__, (base,))


if __name__ == "__main__":
    unittest.main()
