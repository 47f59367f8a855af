import unittest

from shownrun.bound import bound
from shownrun.day import Day, day
from shownrun.errors import BadPrime, BadProgram, BadShape, Broken, TooMany
from shownrun.lines import Program
from shownrun.notes import Notes
from shownrun.reasons import Found, holds, reason
from shownrun.rows import is_run
from shownrun.scheme import compiled
from shownrun.talk import Talk
from shownrun.walking import walk
from tests.texts import Chance
from tests.values import SIZES, no_lists, no_numbers, numbers

SQUARE_TEXT = "main\nask x\ntell sq(x) + 1\nend\nfun sq a\ngive a * a\nend\n"
CHOICE_TEXT = "main\nask a\nif a\nb = 5\nelse\nb = a + 1\nend\ntell b\nend"
PLAIN_TEXT = "main\ntell 7\nend\n"
MANY_TEXT = "main\nask a b\ntell a + b\ntell a * b\ntell a - b\nend\n"
ROW_TEXT = "main\nrow r 2\nr[1] = 7\ntell r[1]\nend\n"
LAYERS = {4: 2, 8: 3, 16: 4, 32: 5, 64: 6}
MANY = 2 * list(range(100))


def long_text(count):
    """A text whose program does so many lines, one for each sum and two at the beginning, and two for its output."""
    return "main\nask a\ntell a" + " + a" * count + "\nend"


class DayTests(unittest.TestCase):
    def check(self, text, secrets, p, rows, told, coins=None, looks=(1, 2, 3), given=None):
        """The Day of a text, for the T that it has and the outputs that it tells."""
        coins = numbers(p + rows, 91 + LAYERS[rows]) if coins is None else coins
        before = list(secrets), list(coins), list(looks)
        made = day(text, secrets, coins, looks, p=p, rows=given)
        self.assertEqual((list(secrets), list(coins), list(looks)), before)
        self.assertIsInstance(made, Day)
        notes = Notes.read(text)
        self.assertEqual(made.outputs, tuple(n % p for n in told))
        self.assertIs(type(made.outputs), tuple)
        self.assertEqual(made.program, compiled(notes, list(made.outputs)))
        talk = made.talk
        self.assertIsInstance(talk, Talk)
        self.assertEqual((talk.verdict, talk.p, talk.rows, talk.looks), ("passed", p, rows, len(looks)))
        self.assertEqual(talk.program, made.program)
        self.assertEqual(talk.heard, [n % p for n in coins[:91 + LAYERS[rows]]])
        self.assertEqual(talk.looked, [n % (16 * rows) for n in looks])
        self.assertEqual(made.reason, reason(talk))
        self.assertIs(holds(talk, made.reason), True)
        self.assertEqual(made.bound, bound(p=p, rows=rows, looks=len(looks)))
        if isinstance(made.reason, Found):
            mended = made.reason.mended_rows(p, rows)
            self.assertIs(is_run(made.program, mended), True)
            used = walk(notes, secrets, p=p).used
            self.assertEqual(mended.secrets(made.program), [n % p for n in secrets[:used]])
            self.assertEqual(walk(notes, mended.secrets(made.program), p=p).outputs, made.outputs)
        return made

    def test_some_days(self):
        for p in (769, 2013265921):
            self.check(SQUARE_TEXT, [3], p, 16, [10])
            self.check(SQUARE_TEXT, [-4, 9, 9], p, 16, [17])
            self.check(SQUARE_TEXT, (9999999999,), p, 16, [9999999999 ** 2 + 1])
            self.check(CHOICE_TEXT, [0], p, 8, [1])
            self.check(CHOICE_TEXT, [6], p, 8, [5])
            self.check(MANY_TEXT, [20, 30], p, 16, [50, 600, -10])
        self.check(ROW_TEXT, [], 7681, 32, [7])
        self.check(PLAIN_TEXT, [], 193, 4, [7])
        self.check(PLAIN_TEXT, [], 257, 4, [7], looks=())
        self.check("main\nend", [], 257, 4, [])

    def test_t_given(self):
        for rows in (4, 8):
            self.check(PLAIN_TEXT, [], 257, rows, [7], given=rows)
        for rows in (8, 16, 32):
            self.check(CHOICE_TEXT, [6], 7681, rows, [5], given=rows)
        self.check(CHOICE_TEXT, [6], 12289, 64, [5], given=64, looks=(1,))

    def test_coins(self):
        told = self.check(PLAIN_TEXT, [], 257, 4, [7], coins=list(range(93)))
        for coins in (list(range(94)), list(range(200)), tuple(range(93)), [n - 257 for n in range(93)]):
            made = self.check(PLAIN_TEXT, [], 257, 4, [7], coins=coins)
            self.assertEqual((made.talk.heard, made.reason), (told.talk.heard, told.reason))
        self.check(PLAIN_TEXT, [], 257, 4, [7], coins=[-9999999999] * 100)
        self.check(PLAIN_TEXT, [], 257, 4, [7], coins=[0] * 93)

    def test_looks(self):
        for looks in ([], [0] * 60, tuple(range(60)), [-1, 9999999999]):
            self.check(PLAIN_TEXT, [], 257, 4, [7], looks=looks)

    def test_by_name(self):
        made = day(looks=[1], coins=MANY, secrets=[3], text=SQUARE_TEXT, rows=16, p=769)
        told = day(SQUARE_TEXT, [3], MANY, [1], p=769)
        self.assertEqual((made.outputs, made.program, made.reason, made.bound),
                         (told.outputs, told.program, told.reason, told.bound))
        self.assertEqual(day(SQUARE_TEXT, [3], MANY, [1], p=769, rows=None).talk.heard, told.talk.heard)

    def test_texts_that_look_like_chance(self):
        seen = {"day": 0, "error": 0}
        for seed in range(24):
            text, secrets = Chance(seed).text(), [(seed + 3 * n) % 4 for n in range(30)]
            p = (7681, 12289, 998244353)[seed % 3]
            try:
                made = day(text, secrets, MANY, [seed], p=p)
            except (Broken, TooMany, BadPrime):
                seen["error"] += 1
                continue
            seen["day"] += 1
            self.assertEqual(made.talk.verdict, "passed")
            self.assertEqual(made.outputs, walk(Notes.read(text), secrets, p=p).outputs)
            self.assertIs(holds(made.talk, made.reason), True)
        self.assertTrue(min(seen.values()) > 2, seen)


class ErrorTests(unittest.TestCase):
    def refused(self, kind, names, text, secrets, coins, looks, p=257, rows=None):
        for _ in range(2):
            with self.assertRaises(kind) as caught:
                day(text, secrets, coins, looks, p=p, rows=rows)
            self.assertEqual(vars(caught.exception), names)

    def test_in_the_order_of_the_entry(self):
        # Whatever comes behind the first error is wrong, too.
        rest = (None, [0] * 61)
        self.refused(TooMany, {"what": "lines", "most": 80}, "main\n" + "x = y\n" * 90, [], *rest)
        self.refused(BadProgram, {"line": 1, "why": "name"}, "main\ntell x\nend", [], *rest)
        self.refused(BadProgram, {"line": 1, "why": "form"}, "main\ntell\nend", [], *rest)
        self.refused(BadProgram, {"line": 2, "why": "end"}, "main\ntell 5", [], *rest)
        self.refused(Broken, {"line": 1, "why": "secrets"}, SQUARE_TEXT, [], *rest)
        self.refused(Broken, {"line": 1, "why": "claim"}, "main\nclaim 1 == 2\nend", [], *rest)
        self.refused(Broken, {"line": 2, "why": "index"}, "main\nrow r 2\nr[2] = 1\nend", [], *rest)
        self.refused(TooMany, {"what": "calls", "most": 12}, "main\ntell f()\nend\nfun f\ngive f()\nend", [], *rest)
        # The walk comes ahead of what compiling refuses.
        self.refused(Broken, {"line": 1, "why": "secrets"}, long_text(150), [], *rest)
        self.refused(TooMany, {"what": "lines", "most": 120}, long_text(118), [5], *rest)
        self.refused(TooMany, {"what": "rows", "most": 64}, long_text(117), [5], *rest)
        self.refused(TooMany, {"what": "rows", "most": 64}, long_text(63), [5], *rest)
        self.refused(TooMany, {"what": "rows", "most": 64}, long_text(62), [5], *rest)
        for rows in SIZES[:4]:
            self.refused(TooMany, {"what": "rows", "most": rows}, long_text(40), [5], *rest, rows=rows)
        self.refused(BadPrime, {"p": 257, "rows": 64}, long_text(40), [5], *rest)
        self.refused(BadPrime, {"p": 257, "rows": 16}, SQUARE_TEXT, [3], *rest)
        self.refused(BadPrime, {"p": 193, "rows": 8}, PLAIN_TEXT, [], *rest, p=193, rows=8)
        self.refused(BadShape, {"what": "coins", "count": None}, PLAIN_TEXT, [], *rest)
        self.refused(BadShape, {"what": "coins", "count": 92}, PLAIN_TEXT, [], [1] * 92, [0] * 61)
        self.refused(BadShape, {"what": "looks", "count": 61}, PLAIN_TEXT, [], [1] * 93, [0] * 61)

    def test_texts_of_any_value(self):
        for value in no_lists() + no_numbers():
            if not isinstance(value, str):
                self.refused(BadProgram, {"line": 0, "why": "form"}, value, [], [], [])

    def test_too_few_coins(self):
        for count in (0, 1, 91, 92):
            self.refused(BadShape, {"what": "coins", "count": count}, PLAIN_TEXT, [], [1] * count, [])
            self.refused(BadShape, {"what": "coins", "count": count}, PLAIN_TEXT, [], (1,) * count, [0] * 70)
        for text, secrets, rows in ((CHOICE_TEXT, [0], 8), (SQUARE_TEXT, [3], 16), (SQUARE_TEXT, [3], 64)):
            count = 90 + LAYERS[rows]
            self.refused(BadShape, {"what": "coins", "count": count}, text, secrets, [1] * count, [], 12289, rows)
            self.assertEqual(day(text, secrets, [1] * (count + 1), [], p=12289, rows=rows).talk.verdict, "passed")
        for value in no_lists():
            self.refused(BadShape, {"what": "coins", "count": None}, PLAIN_TEXT, [], value, [])

    def test_too_many_looks(self):
        for count in (61, 62, 2048):
            self.refused(BadShape, {"what": "looks", "count": count}, PLAIN_TEXT, [], MANY, [1] * count)
        self.assertEqual(len(day(PLAIN_TEXT, [], MANY, [1] * 60, p=257).talk.looked), 60)
        for value in no_lists():
            self.refused(BadShape, {"what": "looks", "count": None}, PLAIN_TEXT, [], MANY, value)

    def test_secrets(self):
        for count in range(2):
            self.refused(Broken, {"line": 1, "why": "secrets"}, MANY_TEXT, [5] * count, MANY, [], 769)
        for count in (2, 3, 40):
            self.assertEqual(day(MANY_TEXT, [5] * count, MANY, [], p=769).outputs, (10, 25, 0))


class HandMadeTests(unittest.TestCase):
    def test_attributes(self):
        told = day(PLAIN_TEXT, [], MANY, [1], p=257)
        outputs = [1, 2]
        made = Day(outputs, told.program, told.talk, told.reason, 5)
        outputs.pop()
        self.assertEqual(made.outputs, (1, 2))
        self.assertIs(made.talk, told.talk)
        self.assertEqual((made.program, made.reason, made.bound), (told.program, told.reason, 5))
        self.assertIsInstance(made.program, Program)
        by_name = Day(bound=7, reason=told.reason, talk=told.talk, program=told.program, outputs=())
        self.assertEqual((by_name.outputs, by_name.bound), ((), 7))


if __name__ == "__main__":
    unittest.main()
