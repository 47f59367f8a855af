import unittest

from shownrun.bags import Bag
from shownrun.draws import Draws
from shownrun.errors import BadLine, BadShape, TooMany
from shownrun.lines import OPS, Line, Program
from tests.values import no_lists, no_numbers, numbers

STOP = Line("stop")


class LineTests(unittest.TestCase):
    def test_ops(self):
        self.assertEqual(OPS, ("add", "mul", "set", "same", "jz", "call", "ret", "here", "stop", "ask"))

    def test_attributes_and_text(self):
        line = Line("add", 2, -1, 3, 9999999999)
        self.assertEqual((line.op, line.a, line.b, line.c, line.imm), ("add", 2, -1, 3, 9999999999))
        self.assertEqual(str(line), "add 2 -1 3 9999999999")
        self.assertEqual(str(Line("ret")), "ret 0 0 0 0")
        self.assertEqual(str(Line(imm=5, op="set", b=-9999999999)), "set 0 -9999999999 0 5")

    def test_wrong_fields(self):
        for value in no_numbers() + [10 ** 10, -10 ** 10]:
            for at, field in enumerate(("a", "b", "c", "imm")):
                values = [0] * at + [value] * (4 - at)
                with self.assertRaises(BadLine) as held:
                    Line("add", *values)
                self.assertEqual(held.exception.field, field)
            for op in (value, "adds", "Add", 0):
                with self.assertRaises(BadLine) as held:
                    Line(op, value)
                self.assertEqual(held.exception.field, "op")

    def test_fields(self):
        for at, op in enumerate(OPS):
            flags = tuple(int(at == k) for k in range(9))
            self.assertEqual(Line(op, 1, -2, 300, -9999999999).fields(7, p=257),
                             (7,) + flags + (1, 255, 43, -9999999999 % 257))
        self.assertEqual(STOP.fields(at=3, p=193), (3, 0, 0, 0, 0, 0, 0, 0, 0, 1, 0, 0, 0, 0))

    def test_both_ends_of_each_range(self):
        for at, field in enumerate(("a", "b", "c", "imm")):
            for value in (9999999999, -9999999999, 0):
                values = [0] * at + [value]
                line = Line("jz", *values)
                self.assertEqual([line.a, line.b, line.c, line.imm][at], value)
                self.assertEqual(Line(op="jz", **{field: value}), line)
                self.assertEqual(str(line), "jz " + " ".join(str(n) for n in values + [0] * (3 - at)))
            for value in (10000000000, -10000000000, 999999999999):
                with self.assertRaises(BadLine) as held:
                    Line("jz", **{field: value})
                self.assertEqual(held.exception.field, field)

    def test_the_first_wrong_field_counts(self):
        for first in range(5):
            for second in range(first, 5):
                values = ["add", 1, 2, 3, 4]
                values[second] = None
                values[first] = [] if first else "none"
                with self.assertRaises(BadLine) as held:
                    Line(*values)
                self.assertEqual(held.exception.field, ("op", "a", "b", "c", "imm")[first])

    def test_fields_of_all_primes(self):
        for p in (193, 797, 2013265921, 9999999967):
            for numbers_of in ([0, 1, -1, p], [p - 1, p + 1, -p, 9999999999], [-9999999999, 2 * p, 3, 4]):
                passed = [n if abs(n) <= 9999999999 else 7 for n in numbers_of]
                for at in (0, 5, 119, p, -1):
                    told = (at % p,) + (0,) * 4 + (1,) + (0,) * 4 + tuple(n % p for n in passed)
                    self.assertEqual(Line("jz", *passed).fields(at, p=p), told)

    def test_equal(self):
        values = [1, 2, 3, 4]
        self.assertTrue(Line("add", *values) == Line("add", *values))
        self.assertFalse(Line("add", *values) == Line("mul", *values))
        for at in range(4):
            self.assertFalse(Line("add", *values) == Line("add", *values[:at], 9, *values[at + 1:]))
        for value in no_lists() + ["add 1 2 3 4"]:
            self.assertIs(Line("add", *values) == value, False)


class ProgramTests(unittest.TestCase):
    def refused(self, kind, names, *arguments):
        with self.assertRaises(kind) as held:
            Program(*arguments)
        self.assertEqual(vars(held.exception), names)

    def test_attributes(self):
        lines = [Line("set", 0, 0, 0, 3), STOP]
        program = Program(lines, 6)
        lines.pop()
        self.assertEqual((program.lines, program.frame), ((Line("set", 0, 0, 0, 3), STOP), 6))
        self.assertEqual((len(program), repr(program)), (2, "Program(2 lines, frame 6)"))
        self.assertEqual(program.listing(), ["set 0 0 0 3", "stop 0 0 0 0"])
        self.assertEqual(Program(frame=0, lines=(STOP,)), Program([STOP]))
        self.assertEqual((len(Program([STOP] * 120)), Program([STOP], 999999).frame), (120, 999999))

    def test_refused(self):
        for value in no_lists():
            self.refused(BadShape, {"what": "lines", "count": None}, value, -1)
        self.refused(BadShape, {"what": "lines", "count": 0}, [], -1)
        self.refused(TooMany, {"what": "lines", "most": 120}, [0] * 121, -1)
        for value in no_lists():
            self.refused(BadLine, {"field": "line"}, [STOP, value], -1)
        for value in no_numbers() + [-1, 1000000]:
            with self.assertRaises(BadShape) as held:
                Program([STOP], value)
            self.assertEqual(held.exception.what, "frame")
            self.assertIs(held.exception.count, value)

    def test_apart(self):
        for step, most in ((None, 0), (5, 5), (-4, 0)):
            program = Program([STOP] if step is None else [Line("call", c=step), Line("add", c=90), STOP], 6)
            bound = 3 + 6 + 4 * (3 + most)
            self.assertIs(program.apart(bound, 4), True)
            self.assertIs(program.apart(p=bound - 1, rows=4), False)

    def test_fields(self):
        program = Program([Line("set", 0, 0, 0, -3), STOP])
        one, other = program.lines[0].fields(0, p=257), STOP.fields(1, p=257)
        self.assertEqual(program.fields([1, 3], p=257), Bag(one, other, other, other))
        self.assertEqual(program.fields(counts=(0, 0), p=257), Bag())

    def test_closing(self):
        program = Program([Line("set", 0, 0, 0, -3), Line("mul", 1), STOP])
        for p in (193, 2013265921):
            draws = Draws(numbers(p, 16), p=p)
            for counts in ([1, 1, 2], [0, 0, 4], [3, 1, 0], [0, 0, 0]):
                told = 1
                for at, line in enumerate(program.lines):
                    told = told * (draws.w - draws.mix(line.fields(at, p=p))) ** counts[at] % p
                self.assertEqual(program.closing(counts, draws), told)
                self.assertEqual(program.closing(draws=draws, counts=tuple(counts)), told)

    def test_great_counts(self):
        program = Program([Line("set", 0, 0, 0, -3), STOP])
        draws = Draws(numbers(7, 16), p=257)
        factors = [draws.w - draws.mix(line.fields(at, p=257)) for at, line in enumerate(program.lines)]
        for counts in ([9999999999, 1], [256, 512], [0, 65], [1000, 9999999998]):
            told = pow(factors[0], counts[0], 257) * pow(factors[1], counts[1], 257) % 257
            self.assertEqual(program.closing(counts, draws), told)

    def test_is_always_true(self):
        self.assertTrue(Program([STOP]))

    def test_a_factor_0(self):
        coins = [0] * 16
        draws = Draws(coins, p=257)
        program = Program([STOP, Line("set")])
        self.assertEqual(program.closing([0, 2], draws), 1)
        self.assertEqual(program.closing([1, 1], draws), 0)

    def test_equal(self):
        program = Program([STOP, STOP], 3)
        self.assertTrue(program == Program((STOP, Line("stop")), 3))
        for value in no_lists() + [Program([STOP], 3), Program([STOP, STOP], 4), Program([STOP, Line("ask")], 3)]:
            self.assertIs(program == value, False)


if __name__ == "__main__":
    unittest.main()
