"""Filled rows of runs, and when rows are a run of a program."""

import unittest

from shownrun.bags import Bag
from shownrun.equations import failing_first
from shownrun.errors import TooMany
from shownrun.lines import Line, Program
from shownrun.rows import Rows, filled, is_run
from shownrun.runs import Run, run
from tests import samples
from tests.samples import (CELLS, CHOICE, COLUMNS, FIELDS, SAMPLES, SMALL, SMALL_ROWS, SMALL_WRONG, SQUARE,
                           program_of, rows_of_run)
from tests.values import SIZES, numbers

ALL_OPS = program_of(["add 0 1 2 0", "mul 3 4 5 0", "set 6 7 8 2", "here 9 10 11 3", "ask 12 13 14 0",
                      "same 15 9 16 4", "jz 17 18 19 0", "call 20 0 2 8", "stop 1 2 3 4"], 24)
RETURNS = program_of(["call 0 0 5 2", "stop 0 0 0 0", "set 0 0 0 4", "ret -3 -2 -1 0"], 3)
FAR = program_of(["set 0 0 0 1", "set 40 40 40 2", "set 9 9 9 3", "stop 0 0 0 0"], 4)
PROGRAMS = [(SMALL, []), (SQUARE, [3]), (CHOICE, [0]), (CHOICE, [5]), (CELLS, [4]), (ALL_OPS, list(range(1, 40))),
            (RETURNS, []), (FAR, []), (program_of(["stop 4 5 -6 7"], 300), [])]


def told_is_run(program, rows):
    """Whether Rows are a run, by the words of [23]."""
    p, count = rows.p, len(rows.columns[0])
    named = [dict(zip(COLUMNS, row)) for row in zip(*rows.columns)]
    lines = [tuple(n % p for n in (at, *[int(line.op == name) for name in FIELDS[1:10]], line.a, line.b, line.c, line.imm))
             for at, line in enumerate(program.lines)]
    ops = []
    for row in named:
        fields = tuple(row[name] for name in FIELDS)
        if fields not in lines:
            return False
        ops.append(program.lines[lines.index(fields)].op)
    first = named[0]
    if (first["pc"], first["fp"], first["ap"]) != (0, 3, (3 + program.frame) % p) or ops[-1] != "stop":
        return False
    for at, (row, op) in enumerate(zip(named, ops)):
        pc, fp, ap, a, b, c, imm = [row[name] for name in "pc fp ap a b c imm".split()]
        da, dv, xa, xv, ya, yv, t = [row[name] for name in "da dv xa xv ya yv t".split()]
        places = [fp + a, fp + b, fp + c]
        if op == "call":
            places = [ap, ap + 1, ap + 2]
        if op == "same":
            places[2] = xv + imm
        if op != "stop" and any((one - other) % p for one, other in zip((da, xa, ya), places)):
            return False
        holds = {"add": dv - xv - yv, "mul": dv - xv * yv, "set": dv - imm, "here": dv - fp - imm, "same": dv - yv,
                 "jz": 0 if xv == 0 else xv * yv - 1}.get(op, 0)
        if op == "call" and any(n % p for n in (dv - fp, xv - pc - 1, yv - fp - a)):
            return False
        if holds % p or (t - 1 + xv * yv) % p:
            return False
        follows = {"stop": (pc, fp, ap), "call": (imm, ap + 3, ap + 3 + c), "ret": (xv, dv, ap)}.get(op, (pc + 1, fp, ap))
        if op == "jz" and xv == 0:
            follows = (imm, fp, ap)
        if at < count - 1:
            behind = named[at + 1]
            if any((one - other) % p for one, other in zip(follows, (behind["pc"], behind["fp"], behind["ap"]))):
                return False
    touches = [(row[k + "a"], row[k + "v"]) for row in named for k in "dxy"]
    ordered = [(row["A" + k], row["V" + k]) for row in named for k in "123"]
    if sorted(touches) != sorted(ordered):
        return False
    return all(one == other or (other[0] - one[0]) % p == 1 for one, other in zip(ordered, ordered[1:]))


class FilledTests(unittest.TestCase):
    def test_against_a_second_working(self):
        for program, secrets in PROGRAMS:
            for p in (193, 257, 769, 7681, 2013265921):
                made = run(program, secrets, p=p)
                for rows in SIZES:
                    if made.needs is None or rows < made.needs:
                        with self.assertRaises(TooMany) as held:
                            filled(made, rows)
                        self.assertEqual((held.exception.what, held.exception.most), ("rows", rows))
                        continue
                    told = rows_of_run(program, [n % p for n in secrets], p, rows)
                    self.assertEqual(filled(made, rows), told)
                    self.assertEqual(filled(rows=rows, run=made).columns, told.columns)
                    self.assertIs(is_run(program, filled(made, rows)), True)
                    self.assertTrue(told_is_run(program, told))

    def test_the_stop_rows(self):
        rows = filled(run(FAR, p=257), 32)
        # The gaps ascending, each with its worth 0, and then the least touched address.
        gaps = [at for at in range(3, 44) if at not in (3, 12, 43)]
        self.assertEqual(rows.touch_pairs()[9:], [(at, 0) for at in gaps] + [(3, 1)] * (87 - len(gaps)))
        self.assertEqual(rows.register_rows(), [(0, 3, 7), (1, 3, 7), (2, 3, 7)] + [(3, 3, 7)] * 29)
        self.assertEqual(rows.sorted_touches(), sorted(rows.touch_pairs()))
        self.assertEqual(rows.counted(FAR), [1, 1, 1, 29])

    def test_without_a_line_done(self):
        program = program_of(["stop 4 5 -6 7"], 300)
        for p in (193, 257):
            rows = filled(run(program, p=p), 4)
            self.assertEqual(rows.touch_pairs(), [(3, 0)] * 12)
            self.assertEqual(rows.register_rows(), [(0, 3, 303 % p)] * 4)
            self.assertEqual([rows.column(name)[0] for name in ("stop", "a", "b", "c", "imm", "t")],
                             [1, 4, 5, p - 6, 7, 1])

    def test_refused(self):
        self.assertIsNone(run(Program([Line("set", 0, 0, 0, 5)] * 64 + [Line("stop")], 1), p=257).needs)
        many = run(program_of(["set 0 0 0 1", "set 250 250 250 1", "stop"], 0), p=257)
        for made, least in ((run(SQUARE, [3], p=257), 16), (run(SMALL, p=257), 4), (many, 128),
                            (run(Program([Line("set", 0, 0, 0, 5)] * 64 + [Line("stop")], 1), p=257), 128),
                            (run(Program([Line("set", 0, 0, 0, 5)] * 63 + [Line("stop")], 1), p=257), 64)):
            for rows in SIZES:
                if rows >= least:
                    self.assertEqual(len(filled(made, rows)), rows)
                    continue
                with self.assertRaises(TooMany) as held:
                    filled(made, rows)
                self.assertEqual((held.exception.what, held.exception.most), ("rows", rows))

    def test_of_a_run_made_by_hand(self):
        made = run(SMALL, p=257)
        other = Run(SMALL, [list(n + 257 for n in triple) for triple in made.registers],
                    [[list(pair) for pair in triple] for triple in made.touches], 0, p=257)
        self.assertEqual(filled(other, 4), SMALL_ROWS)
        self.assertEqual(filled(made, 4).columns, SMALL_ROWS.columns)


class IsRunTests(unittest.TestCase):
    def test_of_filled_runs(self):
        for program, rows in SAMPLES:
            self.assertIs(is_run(program, rows), True)
            self.assertIs(is_run(rows=rows, program=program), True)

    def test_with_any_one_worth_changed(self):
        kept = 0
        for program, rows in SAMPLES:
            for name in COLUMNS[:29]:
                for at in range(len(rows)):
                    for more in (1, -1):
                        changed = rows.changed(name, at, rows.column(name)[at] + more)
                        told = told_is_run(program, changed)
                        self.assertIs(is_run(program, changed), told, (name, at))
                        kept += told
        # No worth of these rows may be another one: each touch stands among the sorted ones, too.
        self.assertEqual(kept, 0)

    def test_with_several_changed(self):
        seen = {True: 0, False: 0}
        for seed in range(60):
            program, rows = SAMPLES[2 + seed % 5]
            told = numbers(seed, 8)
            # The stop rows touch any addresses and worths that stand in the sorted touches, in any order.
            pairs = rows.touch_pairs()
            done = sum(op == 0 for op in rows.column("stop"))
            tail = pairs[3 * done:]
            tail = tail[told[0] % 3:] + tail[:told[0] % 3] if seed % 3 else [(at, n + 1) for at, n in tail]
            columns = [list(column) for column in rows.columns]
            for k, (address, worth) in enumerate(pairs[:3 * done] + tail):
                columns[16 + 2 * (k % 3)][k // 3] = address
                columns[17 + 2 * (k % 3)][k // 3] = worth
            columns[22] = [1 - x * y for x, y in zip(columns[19], columns[21])]
            changed = Rows(columns, p=rows.p)
            self.assertIs(is_run(program, changed), told_is_run(program, changed))
            seen[is_run(program, changed)] += 1
        self.assertTrue(min(seen.values()) > 10, seen)

    def test_for_other_programs(self):
        for program, rows in SAMPLES:
            for other, _ in SAMPLES:
                self.assertIs(is_run(other, rows), other == program)
        self.assertIs(is_run(SMALL_WRONG, SMALL_ROWS), False)
        self.assertIs(is_run(Program(SMALL.lines, 3), SMALL_ROWS), False)
        self.assertIs(is_run(Program(SMALL.lines, 2 + 257), SMALL_ROWS), True)
        self.assertIs(is_run(Program(SMALL.lines + (Line("ask"),), 2), SMALL_ROWS), True)

    def test_addresses_with_two_worths(self):
        # Row 2 has another worth at address 4 than row 1; both stand among the sorted touches.
        rows = SMALL_ROWS
        for name in ("dv", "xv", "yv", "imm"):
            rows = rows.changed(name, 2, 10)
        rows = rows.changed("t", 2, 1 - 100)
        ordered = sorted(rows.touch_pairs())
        columns = [list(column) for column in rows.columns]
        for k, (address, worth) in enumerate(ordered):
            columns[23 + 2 * (k % 3)][k // 3], columns[24 + 2 * (k % 3)][k // 3] = address, worth
        rows = Rows(columns, p=257)
        self.assertEqual(sorted(rows.touch_pairs()), rows.sorted_touches())
        self.assertIs(is_run(SMALL_WRONG, rows), False)
        self.assertEqual({number for number, _ in failing_first(rows, frame=2)}, {26})
        # Without the other worth among the sorted ones the equations hold, but the touches are others.
        columns[23:] = [list(column) for column in SMALL_ROWS.columns[23:]]
        rows = Rows(columns, p=257)
        self.assertEqual(failing_first(rows, frame=2), [])
        self.assertIs(is_run(SMALL_WRONG, rows), False)

    def test_sorted_touches_that_begin_at_the_greatest_addresses(self):
        # From the greatest address the sorted touches of a run may go on at 0.
        program = program_of(["set -4 -3 -2 5", "stop"], 1)
        rows = rows_of_run(program_of(["set 0 1 2 5", "stop"], 1), [0, 0], 193, 4)
        made = samples.Run(program, [0, 0], 193)
        self.assertEqual([at for at, _ in made.touches[0]], [192, 0, 1])
        columns = [list(column) for column in rows.columns]
        columns[12:15] = [[-4, 0, 0, 0], [-3, 0, 0, 0], [-2, 0, 0, 0]]
        for at in (16, 18, 20):
            columns[at] = [n - 4 for n in columns[at]]
        for at in (23, 25, 27):
            columns[at] = [n - 4 for n in columns[at]]
        rows = Rows(columns, p=193)
        self.assertEqual(rows.sorted_touches()[0], (192, 5))
        self.assertTrue(told_is_run(program, rows))
        self.assertIs(is_run(program, rows), True)
        self.assertEqual(rows.secrets(program), [0, 0])

    def test_primes_that_do_not_fit(self):
        for p, rows in ((193, 16), (257, 32), (769, 64), (7681, 64)):
            made = rows_of_run(SQUARE, [3], p, rows)
            self.assertIs(is_run(SQUARE, made), True)
            for name in ("pc", "imm", "dv", "t", "V3"):
                self.assertIs(is_run(SQUARE, made.changed(name, 5, made.column(name)[5] + 1)), False)

    def test_any_rows(self):
        for p, count in ((193, 4), (257, 8), (769, 64)):
            self.assertIs(is_run(SMALL, Rows([numbers(k, count) for k in range(29)], p=p)), False)
            self.assertIs(is_run(SMALL, Rows([[0] * count] * 29, p=p)), False)

    def test_runs_by_the_facts(self):
        """Rows are a run exactly if the equations 1 to 26 hold and the bags are alike ([29])."""
        for program, rows in SAMPLES:
            for name in COLUMNS[:29]:
                changed = rows.changed(name, 1, rows.column(name)[1] + 1)
                touches = Bag(*changed.touch_pairs()) == Bag(*changed.sorted_touches())
                lines = changed.fields() == program.fields(changed.counted(program), p=rows.p)
                self.assertEqual(is_run(program, changed),
                                 touches and lines and not failing_first(changed, frame=program.frame))


if __name__ == "__main__":
    unittest.main()
