"""Doing single lines, with all ways in which their cells may have worths and stand at several positions."""

import itertools
import unittest

from shownrun.errors import Broken, NotWaiting
from shownrun.lines import Line, Program
from shownrun.machine import Machine

SECRETS = [4, 6, 1]


class Lacking(Exception):
    """A secret is due and there is none."""


class Told:
    """A line that is done by the words of the document, on a dict of cells."""

    def __init__(self, line, registers, cells, secrets, p):
        self.line, self.cells, self.secrets, self.p = line, dict(cells), list(secrets), p
        self.pc, self.fp, self.ap = registers
        if line.op == "call":
            self.at = {"d": self.ap, "x": self.ap + 1, "y": self.ap + 2}
        else:
            self.at = {"d": self.fp + line.a, "x": self.fp + line.b, "y": self.fp + line.c}
        self.used = 0

    def has(self, name):
        return self.at[name] % self.p in self.cells

    def get(self, name):
        return self.cells[self.at[name] % self.p]

    def put(self, name, worth):
        if not self.has(name):
            self.cells[self.at[name] % self.p] = worth % self.p

    def take(self, *names):
        for name in names:
            if not self.has(name):
                if self.used == len(self.secrets):
                    raise Lacking()
                self.used += 1
                self.put(name, self.secrets[self.used - 1])

    def fill(self):
        op, imm = self.line.op, self.line.imm
        if op == "add":
            known = "".join(name for name in "dxy" if self.has(name))
            if known == "dx":
                self.put("y", self.get("d") - self.get("x"))
            elif known == "dy":
                self.put("x", self.get("d") - self.get("y"))
            else:
                self.take("x", "y")
                self.put("d", self.get("x") + self.get("y"))
        if op == "mul":
            self.take("x", "y")
            self.put("d", self.get("x") * self.get("y"))
        if op in ("set", "here"):
            self.put("d", imm if op == "set" else self.fp + imm)
            self.take("x", "y")
        if op == "same":
            self.take("x")
            self.at["y"] = self.get("x") + imm
            if not self.has("d") and not self.has("y"):
                self.take("y")
            if self.has("d"):
                self.put("y", self.get("d"))
            self.put("d", self.get("y"))
        if op == "jz":
            self.take("x")
            self.put("y", pow(self.get("x"), self.p - 2, self.p))
            self.take("d")
        if op == "call":
            for name, worth in (("d", self.fp), ("x", self.pc + 1), ("y", self.fp + self.line.a)):
                self.put(name, worth)
        if op in ("ask", "ret"):
            self.take("x", "y", "d")

    def result(self):
        """What a machine comes to: broken with a reason, or pairs, registers, cells and the number of secrets."""
        try:
            self.fill()
        except Lacking:
            return "secrets"
        p, line = self.p, self.line
        d, x, y = [self.get(name) for name in "dxy"]
        holds = {"add": d == (x + y) % p, "mul": d == x * y % p, "set": d == line.imm % p, "same": d == y,
                 "here": d == (self.fp + line.imm) % p, "jz": x == 0 or x * y % p == 1,
                 "call": [d, x, y] == [n % p for n in (self.fp, self.pc + 1, self.fp + line.a)]}
        if not holds.get(line.op, True):
            return "cell"
        pc, fp, ap = self.pc + 1, self.fp, self.ap
        if line.op == "jz" and x == 0:
            pc = line.imm
        if line.op == "call":
            pc, fp, ap = line.imm, ap + 3, ap + 3 + line.c
        if line.op == "ret":
            pc, fp = x, d
        pairs = tuple((self.at[name] % p, self.get(name)) for name in "dxy")
        return pairs, (pc % p, fp % p, ap % p), self.cells, self.used


class DoingTests(unittest.TestCase):
    def check(self, line, worths, secrets, frame, p):
        """Does a line behind lines that give the cells of the frame worths; tells what it comes to."""
        begin = [Line("set", at, at, at, worth) for at, worth in worths.items()]
        machine = Machine(Program(begin + [line, Line("stop")], frame), secrets, p=p)
        for _ in begin:
            machine.step()
        cells = {(3 + at) % p: worth % p for at, worth in worths.items()}
        told = Told(line, (len(begin), 3, (3 + frame) % p), cells, [n % p for n in secrets], p).result()
        before = self.state(machine)
        twin = machine.twin()
        for one in (twin, machine, machine):
            if isinstance(told, str):
                with self.assertRaises(Broken) as held:
                    one.step()
                self.assertEqual((held.exception.line, held.exception.why), (len(begin), told))
                self.assertEqual(self.state(one), before)
            elif one.steps == len(begin):
                self.assertEqual(one.step(), told[0])
                self.assertEqual((one.pc, one.fp, one.ap), told[1])
                self.assertEqual((one.used, one.steps), (told[3], len(begin) + 1))
                self.assertEqual({address: one.cell(address) for address in told[2]}, told[2])
                self.assertLessEqual(self.state(one)[5].keys(), told[2].keys())
        return told if isinstance(told, str) else "done"

    def state(self, machine):
        addresses = [*range(20), *range(20, machine.p, 1 + machine.p // 100)]
        cells = {address: machine.cell(address) for address in addresses if machine.cell(address) is not None}
        return machine.pc, machine.fp, machine.ap, machine.used, machine.steps, cells, machine.done

    def each(self, op, imms, some_worths, p, counts=(0, 1, 2, 3)):
        """Does a line of an op with all positions of its cells and all choices of worths; tells what came."""
        came = set()
        for places in itertools.product(range(3), repeat=3):
            used = sorted(set(places))
            for worths in itertools.product(some_worths, repeat=len(used)):
                known = {at: worth for at, worth in zip(used, worths) if worth is not None}
                for imm in imms:
                    for count in counts:
                        came.add(self.check(Line(op, *places, imm), known, SECRETS[:count], 3, p))
        return came

    def test_ops_of_three_cells(self):
        for p, counts in ((193, (1, 3)), (257, (0, 1, 2, 3))):
            for op, imms in (("add", [0]), ("mul", [0]), ("set", [2, -5]), ("here", [2, -3]), ("ask", [0]), ("ret", [0])):
                came = self.each(op, imms, (None, 0, 2, 6), p, counts)
                self.assertEqual(came, {"secrets", "done"} | ({"cell"} if op not in ("ask", "ret") else set()))

    def test_jz(self):
        for p in (193, 257):
            came = self.each("jz", [7, -2], (None, 0, 1, 97 if p == 193 else 129, 2), p, (0, 1, 2))
            self.assertEqual(came, {"secrets", "done", "cell"})

    def test_same(self):
        # The worth of x with the number imm is an address near those of the frame, or far from them.
        for p in (193, 257):
            came = self.each("same", [0, 1, -4, 100, p], (None, 3, 4, 5), p, (0, 1, 2))
            self.assertEqual(came, {"secrets", "done", "cell"})

    def test_call(self):
        for p in (193, 257):
            came = set()
            for worths in itertools.product((None, 0, 3, 4, 5, 7), repeat=3):
                # The frame is 0: the cells at ap are those at fp.
                known = {at: worth for at, worth in enumerate(worths) if worth is not None}
                for a, c, imm in ((0, 0, 1), (2, 5, 0), (-4, -9, -1), (p + 2, 3 * p + 5, p + 1)):
                    came.add(self.check(Line("call", a, 77, c, imm), known, [], 0, p))
            self.assertEqual(came, {"done", "cell"})

    def test_frames_and_numbers_beyond_the_prime(self):
        for p in (193, 257, 7681, 9999999967):
            for frame in (0, 1, 190, 250, 257, 999999):
                for op in ("add", "mul", "set", "here", "ask", "ret", "jz", "call"):
                    for numbers in ((0, 1, 2, 3), (p, 1 - p, 2 + 2 * p if p < 10 ** 9 else 2, 3 - p),
                                    (-1, -2, -3, -9999999999), (9999999999, 9999999998, 1, 9999999999)):
                        self.check(Line(op, *numbers), {1: 7}, SECRETS, frame, p)

    def test_what_stands_at_no_line(self):
        for imm in (3, 100, 256, -1, 9999999999):
            machine = Machine(Program([Line("call", 0, 0, 2, imm), Line("set"), Line("stop")], 0), p=257)
            machine.step()
            with self.assertRaises(Broken) as held:
                machine.step()
            self.assertEqual((held.exception.line, held.exception.why), (imm % 257, "line"))
            self.assertIs(machine.done, False)
        # A jump modulo the prime comes to a line.
        machine = Machine(Program([Line("call", 0, 0, 2, 257 + 2), Line("set"), Line("stop")], 0), p=257)
        machine.step()
        self.assertEqual((machine.pc, machine.done), (2, True))
        with self.assertRaises(NotWaiting):
            machine.step()

    def test_a_stop_touches_nothing(self):
        machine = Machine(Program([Line("stop", 1, 2, 3, 4)], 5), [1, 2, 3], p=257)
        self.assertEqual((machine.done, machine.used, machine.steps), (True, 0, 0))
        for _ in range(2):
            with self.assertRaises(NotWaiting) as held:
                machine.step()
            self.assertEqual(held.exception.what, "step")
        self.assertEqual([machine.cell(at) for at in range(257)], [None] * 257)

    def test_cells_at_addresses_of_any_size(self):
        for p in (193, 2013265921):
            machine = Machine(Program([Line("set", 0, 0, 0, -1), Line("stop")]), p=p)
            machine.step()
            for address in (3, 3 + p, 3 - p, 3 + 4 * p):
                self.assertEqual(machine.cell(address=address), p - 1)
            self.assertIsNone(machine.cell(2))
            self.assertIsNone(machine.cell(p + 4))


if __name__ == "__main__":
    unittest.main()
