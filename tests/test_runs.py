import unittest

from shownrun.errors import Broken, TooMany
from shownrun.lines import Line, Program
from shownrun.machine import Machine
from shownrun.notes import Notes
from shownrun.rows import filled, is_run
from shownrun.runs import Run, lines_done, run, secrets_of
from shownrun.scheme import compiled
from shownrun.walking import walk
from tests import samples
from tests.samples import CELLS, CHOICE, SMALL, SQUARE, program_of
from tests.texts import Chance
from tests.values import LISTED, no_lists, no_numbers

ALL_OPS = program_of(["add 0 1 2 0", "mul 3 4 5 0", "set 6 7 8 2", "here 9 10 11 3", "ask 12 13 14 0",
                      "same 15 9 16 4", "jz 17 18 19 0", "call 20 0 2 8", "stop 0 0 0 0"], 24)
RETURNS = program_of(["call 0 0 5 2", "stop 0 0 0 0", "set 0 0 0 4", "ret -3 -2 -1 0"], 3)
# Any primes from 193 on, not only the listed ones.
PRIMES = (193, 197, 211, 257, 7681, 998244353, 2013265921, 9999999967)
PROGRAMS = [(SMALL, []), (SQUARE, [3]), (SQUARE, [-3, 5]), (CHOICE, [0]), (CHOICE, [5]), (CELLS, [9999999999]),
            (ALL_OPS, list(range(1, 40))), (RETURNS, []), (program_of(["stop 4 5 6 7"], 300), [1, 2])]


def line_of(count):
    """A program that does so many lines and comes to its stop."""
    return Program([Line("set", 0, 0, 0, 5)] * count + [Line("stop")], 1)


def spread(*steps):
    """A program that touches just the addresses 3 + step."""
    return Program([Line("set", step, step, step, 1) for step in steps] + [Line("stop")], 0)


def needed(count, gaps):
    """The T that so many rows and gaps need, by the words of the document."""
    m = 0
    while 3 * m < gaps:
        m += 1
    for rows in (4, 8, 16, 32, 64):
        if count + max(1, m) <= rows:
            return rows
    return None


class RunTests(unittest.TestCase):
    def test_against_a_second_working(self):
        for program, secrets in PROGRAMS:
            for p in PRIMES:
                told = samples.Run(program, [n % p for n in secrets], p)
                made = run(program, secrets, p=p)
                self.assertIsInstance(made, Run)
                self.assertEqual((made.program, made.p), (program, p))
                self.assertEqual(made.registers, tuple(told.registers) + (tuple(n % p for n in told.end),))
                self.assertEqual(made.touches, tuple(told.touches))
                self.assertEqual(made.used, len(secrets) - len(told.secrets))
                self.assertEqual((len(made), bool(made)), (len(told.touches), True))
                used = {address for touch in told.touches for address, _ in touch}
                between = [at for at in range(min(used), max(used)) if at not in used] if used else []
                self.assertEqual(made.gaps, tuple(between))
                self.assertEqual(made.needs, needed(len(told.touches), len(between)))
                self.assertEqual(run(secrets=tuple(secrets), program=program, p=p), made)
                for items in (made.registers, made.touches):
                    self.assertIs(type(items), tuple)
                    self.assertTrue(all(type(item) is tuple for item in items))
                self.assertTrue(all(type(pair) is tuple for touch in made.touches for pair in touch))

    def test_the_examples(self):
        made = run(SQUARE, [3], p=257)
        self.assertEqual([pc for pc, _, _ in made.registers], [0, 1, 2, 3, 8, 9, 10, 11, 4, 5, 6, 7])
        self.assertEqual((made.gaps, made.needs, made.used, len(made)), ((), 16, 1, 11))
        self.assertEqual(sorted({at for touch in made.touches for at, _ in touch}), list(range(3, 14)))
        made = run(SMALL, p=257)
        low, high = (3, 3), (4, 9)
        self.assertEqual(made.touches, ((low, low, low), (high, low, low), (high, high, high)))
        self.assertEqual(made.registers, ((0, 3, 5), (1, 3, 5), (2, 3, 5), (3, 3, 5)))
        self.assertEqual((made.needs, made.used), (4, 0))

    def test_without_a_line_done(self):
        made = run(Program([Line("stop")], 0), [5], p=193)
        self.assertEqual((made.registers, made.touches, made.used), (((0, 3, 3),), (), 0))
        self.assertEqual((len(made), made.gaps, made.needs), (0, (), 4))
        self.assertIs(bool(made), True)

    def test_as_many_rows_as_there_may_be(self):
        for count in (62, 63, 64):
            made = run(line_of(count), p=257)
            self.assertEqual((len(made), made.needs), (count, 64 if count < 64 else None))
        for count in (65, 66, 100):
            with self.assertRaises(TooMany) as held:
                run(line_of(count), p=257)
            self.assertEqual((held.exception.what, held.exception.most), ("rows", 64))
        # A program that never ends.
        with self.assertRaises(TooMany) as held:
            run(program_of(["set 0 0 0 0", "jz 0 0 1 1", "stop"], 2), p=257)
        self.assertEqual((held.exception.what, held.exception.most), ("rows", 64))

    def test_broken_ahead_of_too_many(self):
        for count in (1, 63, 64):
            for last, why in (("ask", "secrets"), ("set 0 0 0 6", "cell")):
                text = last + " 1 1 1 0" if last == "ask" else last
                program = Program(list(line_of(count - 1).lines[:-1]) + list(program_of([text], 0).lines)
                                  + [Line("set", 0, 0, 0, 5)] * 20, 0)
                if count == 1 and last != "ask":
                    continue
                with self.assertRaises(Broken) as held:
                    run(program, p=257)
                self.assertEqual((held.exception.line, held.exception.why), (count - 1, why))
        # The 65th line would be broken, but is one too many.
        program = Program([Line("set", 0, 0, 0, 5)] * 64 + [Line("set", 0, 0, 0, 6), Line("stop")], 0)
        with self.assertRaises(TooMany):
            run(program, p=257)
        for count, kind in ((63, Broken), (64, TooMany)):
            with self.assertRaises(kind):
                run(Program([Line("set", 0, 0, 0, 5)] * count, 0), p=257)

    def test_broken_ones(self):
        for program, secrets, line, why in ((SQUARE, [], 1, "secrets"), (SQUARE, [4], 6, "cell"),
                                            (program_of(["set 0 0 0 0"], 1), [], 1, "line"),
                                            (program_of(["call 0 0 2 -1", "stop"], 4), [], 256, "line")):
            for _ in range(2):
                with self.assertRaises(Broken) as held:
                    run(program, secrets, p=257)
                self.assertEqual((held.exception.line, held.exception.why), (line, why))

    def test_secrets_that_are_left_over_below_0_and_not_reduced(self):
        told = run(SQUARE, [3], p=257)
        for secrets in ([3, 7, 8], (260,), [3 - 257], [3 + 257 * 30000000, -1]):
            self.assertEqual(run(SQUARE, secrets, p=257), told)
        secrets = [3, 4]
        made = run(SQUARE, secrets, p=257)
        self.assertEqual(secrets, [3, 4])
        secrets.clear()
        self.assertEqual(made, told)


class GapTests(unittest.TestCase):
    def test_some(self):
        self.assertEqual(run(spread(0, 4, 1), p=257).gaps, (5, 6))
        self.assertEqual(run(spread(5, 0), p=257).gaps, (4, 5, 6, 7))
        self.assertEqual(run(spread(7), p=257).gaps, ())
        # Addresses are worths: one ahead of 0 is the greatest of all.
        made = run(spread(-4, 0), p=193)
        self.assertEqual(made.gaps, tuple(range(4, 192)))
        self.assertEqual((len(made.gaps), made.needs), (188, None))
        with self.assertRaises(TooMany):
            run(spread(-4, 0), p=2013265921).gaps

    def test_192_and_193(self):
        for p in (211, 257, 2013265921):
            made = run(spread(0, 193), p=p)
            self.assertEqual((made.gaps, made.needs), (tuple(range(4, 196)), None))
            for step in (194, 195, 200 if p == 211 else p - 4):
                made = run(spread(0, step), p=p)
                for _ in range(2):
                    with self.assertRaises(TooMany) as held:
                        made.gaps
                    self.assertEqual((held.exception.what, held.exception.most), ("gaps", 192))
                self.assertIsNone(made.needs)

    def test_needs_at_both_sides_of_each_t(self):
        for rows in (4, 8, 16, 32, 64):
            for count in range(1, rows + 1):
                for gaps in {0, 1, 2, 3, 3 * (rows - count) - 1, 3 * (rows - count), 3 * (rows - count) + 1}:
                    if gaps < 0 or (count == 1 and gaps):
                        continue
                    steps = [0] * (count - 1) + [gaps + 1 if gaps else 0]
                    made = run(spread(*steps), p=998244353)
                    self.assertEqual(len(made.gaps), gaps)
                    self.assertEqual((len(made), made.needs), (count, needed(count, gaps)))

    def test_named_ones(self):
        self.assertEqual([run(line_of(count), p=257).needs for count in (0, 3, 4, 7, 8, 15, 16, 31, 32, 63, 64)],
                         [4, 4, 8, 8, 16, 16, 32, 32, 64, 64, None])
        self.assertEqual([run(spread(0, 1 + gaps), p=257).needs for gaps in (0, 6, 7, 18, 19, 42, 43, 90, 91, 186, 187)],
                         [4, 4, 8, 8, 16, 16, 32, 32, 64, 64, None])


class HandMadeTests(unittest.TestCase):
    def test_attributes(self):
        registers, touches = [[0, 3, 260], [1, -1, 5]], [[[3, 4], [5, -6], [7, 8 + 257]]]
        made = Run(SMALL, registers, touches, 7, p=257)
        self.assertEqual((made.program, made.used, made.p), (SMALL, 7, 257))
        self.assertEqual(made.registers, ((0, 3, 3), (1, 256, 5)))
        self.assertEqual(made.touches, (((3, 4), (5, 251), (7, 8)),))
        self.assertEqual((made.gaps, made.needs, len(made)), ((4, 6), 4, 1))
        registers[0][0] = touches[0][0][0] = 9
        touches.pop()
        self.assertEqual(made, Run(touches=(((3, 4), (5, -6), (7, 8)),), registers=((0, 3, 3), (1, -1, 5)), used=7,
                                   program=SMALL, p=257))
        self.assertIs(bool(Run(SMALL, [], [], 0, p=257)), True)
        self.assertEqual(len(Run(SMALL, [], [], 0, p=257)), 0)

    def test_equal(self):
        told = run(SMALL, p=257)
        given = {"program": told.program, "registers": told.registers, "touches": told.touches, "used": 0}
        self.assertTrue(Run(p=257, **given) == told)
        self.assertFalse(Run(p=257, **given) != told)
        others = [Run(p=193, **given)]
        for name, value in (("program", SQUARE), ("registers", told.registers[:-1] + ((3, 3, 6),)), ("used", 1),
                            ("touches", told.touches[:-1] + (told.touches[0],)), ("touches", told.touches[:-1])):
            others.append(Run(p=257, **{**given, name: value}))
        for other in others + no_lists() + no_numbers():
            self.assertIs(told == other, False)
            self.assertIs(told != other, True)


class LinesDoneTests(unittest.TestCase):
    def test_of_runs(self):
        for program, secrets in PROGRAMS:
            for p in PRIMES:
                told = [pc for pc, _, _ in run(program, secrets, p=p).registers[:-1]]
                self.assertEqual(list(lines_done(program, secrets, p=p)), told)
                self.assertEqual(list(lines_done(secrets=secrets, program=program, p=p)), told)
        self.assertEqual(list(lines_done(Program([Line("stop")]), p=257)), [])

    def asked(self, program, secrets, told, kind, **names):
        """Asked number by number, the lines told come, and then just this error."""
        numbers = lines_done(program, secrets, p=257)
        for at in told:
            self.assertEqual(next(numbers), at)
        with self.assertRaises(kind) as held:
            next(numbers)
        self.assertEqual(vars(held.exception), names)
        with self.assertRaises(StopIteration):
            next(numbers)

    def test_broken_ones(self):
        self.asked(SQUARE, [], [0], Broken, line=1, why="secrets")
        self.asked(SQUARE, [5], [0, 1, 2, 3, 8, 9, 10, 11, 4, 5], Broken, line=6, why="cell")
        self.asked(program_of(["set 0 0 0 0"], 1), [], [0], Broken, line=1, why="line")
        self.asked(program_of(["ask 0 0 0 0", "stop"], 1), [], [], Broken, line=0, why="secrets")
        self.asked(program_of(["call 0 0 2 -1", "stop"], 4), [], [0], Broken, line=256, why="line")

    def test_many(self):
        self.assertEqual(list(lines_done(line_of(64), p=257)), list(range(64)))
        self.asked(line_of(65), [], list(range(64)), TooMany, what="rows", most=64)
        self.asked(Program([Line("set", 0, 0, 0, 5)] * 64, 0), [], list(range(64)), TooMany, what="rows", most=64)
        self.asked(Program([Line("set", 0, 0, 0, 5)] * 63, 0), [], list(range(63)), Broken, line=63, why="line")
        program = program_of(["set 0 0 0 0", "jz 0 0 1 1", "stop"], 2)
        self.asked(program, [], [0] + [1] * 63, TooMany, what="rows", most=64)

    def test_two_at_once(self):
        one, other = lines_done(SQUARE, [3], p=257), lines_done(SQUARE, [3], p=257)
        self.assertEqual([next(one), next(one), next(other), next(one), next(other)], [0, 1, 0, 2, 1])
        self.assertEqual(list(one), [3, 8, 9, 10, 11, 4, 5, 6])


class SecretsOfTests(unittest.TestCase):
    def test_of_runs_for_any_prime(self):
        for program, secrets in PROGRAMS:
            for p in PRIMES:
                made = run(program, secrets, p=p)
                told = [n % p for n in secrets[:made.used]]
                self.assertEqual(secrets_of(program, made.registers, made.touches, p=p), told)
                self.assertIs(type(secrets_of(program, made.registers, made.touches, p=p)), list)
                # Lists that go on behind the stop, and ones that end ahead of it.
                more = list(made.registers) + [(5, 5, 5)] * 3
                self.assertEqual(secrets_of(program, more, list(made.touches) + [((0, 0),) * 3] * 4, p=p), told)
                self.assertEqual(secrets_of(program, more[:len(made) + 1], made.touches, p=p), told)
                self.assertIsNone(secrets_of(program, more[:len(made)], made.touches, p=p))
                if made:
                    self.assertIsNone(secrets_of(program, [], [], p=p))
                if len(made):
                    self.assertIsNone(secrets_of(program, made.registers, made.touches[:-1], p=p))

    def test_with_one_thing_changed(self):
        for program, secrets in PROGRAMS:
            made = run(program, secrets, p=257)
            told = [n % 257 for n in secrets[:made.used]]
            for at in range(len(made) + 1):
                for which in range(3):
                    registers = [list(triple) for triple in made.registers]
                    registers[at][which] += 1
                    self.assertIsNone(secrets_of(program, registers, made.touches, p=257))
                    registers[at][which] += 256
                    self.assertEqual(secrets_of(program, registers, made.touches, p=257), told)
            for at in range(len(made)):
                for which in range(3):
                    touches = [[list(pair) for pair in triple] for triple in made.touches]
                    touches[at][which][0] += 1
                    self.assertIsNone(secrets_of(program, made.registers, touches, p=257))

    def test_changed_worths_do_the_program_with_the_secrets_told(self):
        """If a worth is changed, either there are no secrets, or the program with them does just these rows."""
        for program, secrets in PROGRAMS:
            made = run(program, secrets, p=257)
            told = [n % 257 for n in secrets[:made.used]]
            for at in range(len(made)):
                for which in range(3):
                    if program.lines[made.registers[at][0]].op == "jz" and which == 2:
                        continue
                    touches = [[list(pair) for pair in triple] for triple in made.touches]
                    touches[at][which][1] += 1
                    found = secrets_of(program, made.registers, touches, p=257)
                    if found is not None:
                        self.assertNotEqual(found, told)
                        again = run(program, found, p=257)
                        self.assertEqual(again.touches, Run(program, [], touches, 0, p=257).touches)

    def test_a_worth_beside_a_jz_with_0_is_no_secret(self):
        made = run(CHOICE, [0], p=257)
        touches = [[list(pair) for pair in triple] for triple in made.touches]
        for worth in (0, 5, -1):
            touches[2][2][1] = worth
            self.assertEqual(secrets_of(CHOICE, made.registers, touches, p=257), [0])
        self.assertEqual(made.registers[2][0], 2)

    def test_more_rows_than_a_run_may_have(self):
        program = line_of(100)
        machine, registers, touches = Machine(program, p=257), [], []
        for _ in range(100):
            registers.append((machine.pc, machine.fp, machine.ap))
            touches.append(machine.step())
        self.assertIsNone(secrets_of(program, registers, touches, p=257))
        self.assertEqual(secrets_of(program, registers + [(100, 3, 4)], touches, p=257), [])


class CompiledTests(unittest.TestCase):
    """What a compiled program's run tells is what walking its text tells ([19])."""

    def walked(self, notes, secrets, p):
        try:
            return walk(notes, secrets, p=p)
        except (Broken, TooMany):
            return None

    def test_texts_that_look_like_chance(self):
        seen = {"done": 0, "broken": 0, "other": 0}
        for seed in range(300):
            notes = Notes.read(Chance(seed).text())
            secrets = [(seed * 7 + 3 * n) % 5 for n in range(40)]
            p = list(LISTED)[1 + seed % 6]
            told = self.walked(notes, secrets, p)
            outputs = list(told.outputs) if told else [0] * notes.tells
            try:
                program = compiled(notes, outputs)
            except TooMany:
                continue
            if not program.apart(p, 64):
                continue
            try:
                made = run(program, secrets, p=p)
            except TooMany:
                continue
            except Broken:
                self.assertIsNone(told)
                seen["broken"] += 1
                continue
            if told is None:
                # The walk may have been broken or too long; a broken one breaks the machine, too.
                with self.assertRaises(TooMany):
                    walk(notes, secrets, p=p)
                continue
            self.assertEqual(made.used, told.used)
            self.assertEqual(secrets_of(program, made.registers, made.touches, p=p), secrets[:told.used])
            seen["done"] += 1
            if made.needs is not None:
                rows = filled(made, made.needs)
                self.assertIs(is_run(program, rows), True)
                self.assertEqual(walk(notes, rows.secrets(program), p=p), told)
            if notes.tells:
                other = compiled(notes, [outputs[0] + 1] + outputs[1:])
                with self.assertRaises(Broken):
                    run(other, secrets, p=p)
                self.assertEqual(run(compiled(notes, [outputs[0] + p] + outputs[1:]), secrets, p=p).used, told.used)
                seen["other"] += 1
        self.assertTrue(all(count > 15 for count in seen.values()), seen)


if __name__ == "__main__":
    unittest.main()
