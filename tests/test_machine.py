import unittest

from shownrun.errors import Broken, NotWaiting
from shownrun.machine import Machine
from shownrun.runs import secrets_of
from tests.samples import CELLS, CHOICE, SAMPLES, SMALL, SMALL_ROWS, SQUARE, Run, program_of, rows_of_run
from tests.values import numbers

PROGRAMS = [(SMALL, []), (SQUARE, [3]), (SQUARE, [-3]), (CHOICE, [0]), (CHOICE, [5]), (CELLS, [4]),
            (CELLS, [9999999999]),
            (program_of(["add 0 1 2 0", "mul 3 4 5 0", "set 6 7 8 2", "here 9 10 11 3", "ask 12 13 14 0",
                         "same 15 9 16 4", "jz 17 18 19 0", "stop 0 0 0 0"], 20), list(range(1, 40))),
            (program_of(["set 0 0 0 7", "set 1 1 1 9", "add 1 0 2 0", "add 1 3 0 0", "add 4 0 1 0", "add 1 1 5 0",
                         "same 0 6 7 1", "jz 8 0 9 0", "stop 0 0 0 0"], 12), [-3, 5, 6, 7])]


def state(machine):
    cells = [machine.cell(address) for address in range(-3, 60)]
    return (machine.pc, machine.fp, machine.ap, machine.done, machine.used, machine.steps, cells, repr(machine))


class MachineTests(unittest.TestCase):
    def broken(self, machine, line, why):
        before = state(machine)
        for _ in range(2):
            with self.assertRaises(Broken) as held:
                machine.step()
            self.assertEqual((held.exception.line, held.exception.why), (line, why))
            self.assertEqual(state(machine), before)

    def test_against_a_second_working(self):
        for program, secrets in PROGRAMS:
            for p in (193, 257, 2013265921, 9999999967):
                told = Run(program, [n % p for n in secrets], p)
                machine = Machine(program, secrets, p=p)
                self.assertEqual((machine.program, machine.p, machine.used), (program, p, 0))
                for at, (registers, touch) in enumerate(zip(told.registers, told.touches)):
                    self.assertEqual((machine.pc, machine.fp, machine.ap), registers)
                    self.assertEqual((machine.done, machine.steps), (False, at))
                    made = machine.step()
                    self.assertEqual(made, touch)
                    self.assertEqual((type(made), type(made[0])), (tuple, tuple))
                self.assertEqual((machine.pc, machine.fp, machine.ap), told.end)
                self.assertEqual((machine.done, machine.steps), (True, len(told.touches)))
                self.assertEqual(machine.used, len(secrets) - len(told.secrets))
                for address in range(-5, 60):
                    self.assertEqual(machine.cell(address), told.cells.get(address % p))
                self.assertEqual(machine.cell(address=3 + p), told.cells.get(3))
                self.assertEqual(repr(machine), "Machine({} steps)".format(len(told.touches)))
                with self.assertRaises(NotWaiting) as held:
                    machine.step()
                self.assertEqual(held.exception.what, "step")

    def test_begins(self):
        machine = Machine(SMALL, p=257)
        self.assertEqual(state(machine)[:6], (0, 3, 5, False, 0, 0))
        self.assertEqual(Machine(program_of(["stop"], 300), p=257).ap, 46)
        self.assertIs(Machine(program=program_of(["stop"], 0), secrets=(), p=257).done, True)

    def test_secrets_that_are_due_and_taken(self):
        for op, least in (("ask", 3), ("ret", 3), ("add", 2), ("mul", 2), ("set", 2), ("here", 2), ("same", 2),
                          ("jz", 2)):
            program = program_of([op + " 0 1 2 5", "stop"], 9)
            for count in range(4):
                machine = Machine(program, [1] * count, p=257)
                if count < least:
                    self.broken(machine, 0, "secrets")
                else:
                    machine.step()
                    self.assertEqual(machine.used, least)

    def test_broken_cells(self):
        for listing in (["set 0 0 0 2"], ["add 0 0 0 0"], ["mul 0 0 0 0"], ["here 0 0 0 1"],
                        ["set 1 1 1 4", "jz 0 0 1 0"], ["set 1 1 1 4", "same 1 0 0 0"],
                        ["add 1 0 0 0", "mul 1 0 0 0"]):
            listing = ["set 0 0 0 3"] + listing
            machine = Machine(program_of(listing + ["stop"], 4), p=257)
            for _ in listing[:-1]:
                machine.step()
            self.broken(machine, len(listing) - 1, "cell")

    def test_calls_with_worths_in_their_cells(self):
        for cell, worth, right in ((4, 3, True), (4, 4, False), (5, 4, True), (5, 3, False), (6, 5, True), (6, 3, False)):
            listing = ["set {0} {0} {0} {1}".format(cell, worth), "set 0 0 0 0", "set 1 1 1 1", "call 2 9 9 4", "stop"]
            machine = Machine(program_of(listing, 4), p=257)
            for _ in range(3):
                machine.step()
            if right:
                self.assertEqual(machine.step(), ((7, 3), (8, 4), (9, 5)))
                self.assertEqual((machine.pc, machine.fp, machine.ap), (4, 10, 19))
            else:
                self.broken(machine, 3, "cell")

    def test_a_same_line_that_takes_its_pointer(self):
        program = program_of(["same 0 1 2 -1", "same 0 0 3 -2", "stop"], 4)
        machine = Machine(program, [5, 6], p=257)
        self.assertEqual(machine.step(), ((3, 5), (4, 5), (4, 5)))
        self.assertEqual(machine.step(), ((3, 5), (3, 5), (3, 5)))
        self.assertEqual((machine.used, machine.cell(4), machine.cell(5)), (1, 5, None))

    def test_which_cells_take_secrets(self):
        # For each line and each choice of d, x, y that have worths: what they have behind it.
        table = {
            "add": {"": (7, 3, 4), "d": None, "x": (33, 30, 3), "y": (43, 3, 40), "dx": (70, 30, 40),
                    "dy": (70, 30, 40), "xy": (70, 30, 40), "dxy": (70, 30, 40)},
            "mul": {"": (12, 3, 4), "x": (90, 30, 3), "y": (120, 3, 40), "xy": (1200, 30, 40), "d": None, "dx": None,
                    "dy": None, "dxy": None},
            "set": {"": (70, 3, 4), "x": (70, 30, 3), "y": (70, 3, 40), "d": (70, 3, 4), "dx": (70, 30, 3),
                    "dy": (70, 3, 40), "xy": (70, 30, 40), "dxy": (70, 30, 40)},
            "ask": {"": (5, 3, 4), "x": (4, 30, 3), "y": (4, 3, 40), "d": (70, 3, 4), "dx": (70, 30, 3),
                    "dy": (70, 3, 40), "xy": (3, 30, 40), "dxy": (70, 30, 40)}}
        for op, told in table.items():
            for known, worths in told.items():
                listing = ["set {0} {0} {0} {1}".format("dxy".index(name), {"d": 70, "x": 30, "y": 40}[name])
                           for name in known]
                machine = Machine(program_of(listing + [op + " 0 1 2 70", "stop"], 4), [3, 4, 5, 6], p=7681)
                for _ in listing:
                    machine.step()
                if worths is None:
                    self.broken(machine, len(listing), "cell")
                else:
                    self.assertEqual(machine.step(), tuple(zip((3, 4, 5), worths)))
                    self.assertEqual(machine.used, sum(worth in (3, 4, 5) for worth in worths))

    def test_no_line(self):
        machine = Machine(program_of(["call 0 0 2 -1", "stop"], 4), p=257)
        machine.step()
        self.assertIs(machine.done, False)
        self.broken(machine, 256, "line")
        machine = Machine(program_of(["set 0 0 0 0"], 4), p=257)
        machine.step()
        self.broken(machine, 1, "line")

    def test_twins(self):
        machine = Machine(SQUARE, [3], p=257)
        for _ in range(4):
            machine.step()
        before, twin = state(machine), machine.twin()
        self.assertEqual(state(twin), before)
        while not twin.done:
            twin.step()
        self.assertEqual(state(machine), before)
        self.assertEqual(machine.cell(twin.ap), None)
        machine.step()
        self.assertEqual(twin.steps, 11)
        self.assertEqual(Machine(SQUARE, [3], p=257).twin().step(), ((3, 0), (3, 0), (3, 0)))

    def test_the_list_of_secrets_may_be_changed_behind(self):
        secrets = [3]
        machine = Machine(SQUARE, secrets, p=257)
        secrets[0] = 4
        secrets.clear()
        while not machine.done:
            machine.step()
        self.assertEqual((machine.used, machine.cell(4)), (1, 3))


class SecretsTests(unittest.TestCase):
    def told(self, program, rows):
        return secrets_of(program, rows.register_rows(), rows.triples(), p=rows.p)

    def test_of_runs(self):
        for (program, rows), told in zip(SAMPLES, ([], [], [0], [5], [], [3], [998244350])):
            self.assertEqual(self.told(program, rows), told)
            self.assertEqual(rows.secrets(program), told)
            self.assertEqual(rows.secrets(program=program), told)
        for p in (769, 12289):
            for secrets in ([3], [p - 3]):
                self.assertEqual(rows_of_run(SQUARE, secrets, p, 16).secrets(SQUARE), secrets)

    def test_of_lists_of_triples(self):
        for program, secrets in PROGRAMS:
            run = Run(program, [n % 257 for n in secrets], 257)
            told = [n % 257 for n in secrets[:len(secrets) - len(run.secrets)]]
            registers, touches = run.registers + [run.end], run.touches
            self.assertEqual(secrets_of(program, registers, touches, p=257), told)
            self.assertEqual(secrets_of(program, registers, touches + [((0, 0),) * 3], p=257), told)
            self.assertEqual(secrets_of(program, registers + [(9, 9, 9)], touches, p=257), told)
            greater = [[n + 257 for n in triple] for triple in registers]
            pairs = [[[a - 257, b + 514] for a, b in touch] for touch in touches]
            self.assertEqual(secrets_of(touches=pairs, registers=greater, program=program, p=257), told)
            self.assertIsNone(secrets_of(program, registers[:-1], touches, p=257))
            self.assertIsNone(secrets_of(program, [], [], p=257))
            self.assertIsNone(secrets_of(program, registers, touches[:-1], p=257))

    def test_changed_ones(self):
        for program, rows in SAMPLES:
            steps = Run(program, rows.secrets(program), rows.p).touches
            for at in range(len(steps) + 1):
                for name in ("pc", "fp", "ap"):
                    changed = rows.changed(name, at, rows.column(name)[at] + 1)
                    self.assertIsNone(changed.secrets(program))
            for at in range(len(steps)):
                for name in ("da", "xa", "ya"):
                    changed = rows.changed(name, at, rows.column(name)[at] + 1)
                    self.assertIsNone(changed.secrets(program))
            for name in ("da", "dv", "xa", "xv", "ya", "yv", "t", "A1", "imm"):
                self.assertEqual(rows.changed(name, len(rows) - 1, 77).secrets(program), rows.secrets(program))

    def test_other_worths(self):
        for worth in numbers(3, 5, 0, 256) + [9]:
            self.assertEqual(SMALL_ROWS.changed("dv", 1, worth).secrets(SMALL), [] if worth == 9 else None)
        program = program_of(["ask 0 0 1 0", "stop"], 4)
        rows = rows_of_run(program, [5, 6], 257, 4)
        self.assertEqual(rows.secrets(program), [5, 6])
        self.assertEqual(rows.changed("yv", 0, 8).secrets(program), [5, 8])
        self.assertIsNone(rows.changed("xv", 0, 8).secrets(program))
        self.assertEqual(rows.changed("xv", 0, 8).changed("dv", 0, 8).secrets(program), [8, 6])

    def test_any_worth_beside_a_0_is_no_secret(self):
        for worth in (0, 1, 99):
            rows = SAMPLES[2][1].changed("yv", 2, worth)
            self.assertEqual(rows.secrets(CHOICE), [0])
        rows = SAMPLES[3][1]
        self.assertIsNone(rows.changed("yv", 2, 99).secrets(CHOICE))


if __name__ == "__main__":
    unittest.main()
