import random
import unittest

from shownrun.errors import BadLine, BadShape, Broken, TooMany
from shownrun.lines import Program
from shownrun.machine import Machine
from shownrun.notes import Notes
from shownrun.scheme import compiled
from shownrun.walking import walk
from tests.samples import CELLS, SQUARE, program_of
from tests.texts import Chance, Code
from tests.values import LISTED, no_lists

SQUARE_TEXT = "main\nask x\ntell sq(x) + 1\nend\nfun sq a\ngive a * a\nend\n"
CHOICE_TEXT = "main\nask a\nif a\nb = 5\nelse\nb = a + 1\nend\ntell b\nend"


def main(*lines):
    return "\n".join(("main",) + lines + ("end",))


def code(text, *outputs):
    """The frame and the lines of a text."""
    program = compiled(Notes.read(text), list(outputs))
    return program.frame, program.listing()


def done(program, secrets, p, most=64):
    """What a machine comes to: done with the number of secrets and lines, or broken, or long."""
    machine = Machine(program, secrets, p=p)
    for _ in range(most):
        if machine.done:
            return "done", machine.used, machine.steps
        try:
            machine.step()
        except Broken as broken:
            return "broken", broken.line, broken.why
    return ("done", machine.used, machine.steps) if machine.done else ("long",)


class ExampleTests(unittest.TestCase):
    def test_the_examples(self):
        program = compiled(Notes.read(SQUARE_TEXT), [10])
        self.assertIsInstance(program, Program)
        self.assertEqual(program, SQUARE)
        self.assertEqual(program.listing(), [
            "set 0 0 0 0", "ask 1 1 1 0", "add 2 1 0 0", "call 2 0 2 8", "set 4 4 4 1", "add 5 3 4 0", "set 5 5 5 10",
            "stop 0 0 0 0", "same 0 -1 0 0", "mul 1 0 0 0", "same 1 -1 0 1", "ret -3 -2 -1 0"])
        self.assertEqual(program.frame, 6)
        self.assertEqual(code(CHOICE_TEXT, 5), (8, [
            "set 0 0 0 0", "ask 1 1 1 0", "jz 1 1 2 6", "set 5 5 5 5", "add 3 5 0 0", "jz 0 0 4 9", "set 6 6 6 1",
            "add 7 1 6 0", "add 3 7 0 0", "set 3 3 3 5", "stop 0 0 0 0"]))
        self.assertEqual(compiled(Notes.read(main("row r 2", "r[1] = 7"))), CELLS)

    def test_the_run_of_the_example(self):
        machine = Machine(compiled(Notes.read(SQUARE_TEXT), [10]), [3], p=257)
        lines, touched = [], set()
        while not machine.done:
            lines.append(machine.pc)
            touched.update(address for address, _ in machine.step())
        self.assertEqual(lines, [0, 1, 2, 3, 8, 9, 10, 11, 4, 5, 6])
        self.assertEqual(sorted(touched), list(range(3, 14)))

    def test_by_name(self):
        self.assertEqual(compiled(notes=Notes.read(SQUARE_TEXT), outputs=(10,)), SQUARE)
        self.assertEqual(compiled(Notes.read("main\nend")), program_of(["stop 0 0 0 0"], 0))


class ListingTests(unittest.TestCase):
    def check(self, text, frame, lines, *outputs):
        told = code(text, *outputs)
        self.assertEqual(told, (frame, lines.split(", ")))
        self.assertEqual(Code(text, outputs).listing(), told[1])

    def test_values(self):
        self.check(main("x = 5", "y = x", "z = (y)", "tell z"), 1, "set 0 0 0 5, set 0 0 0 9, stop 0 0 0 0", 9)
        self.check(main("ask a b", "tell b - a"), 3, "ask 0 0 0 0, ask 1 1 1 0, add 1 2 0 0, set 2 2 2 7, stop 0 0 0 0", 7)
        self.check(main("ask a", "tell a + a * a - 3"), 5,
                   "ask 0 0 0 0, mul 1 0 0 0, add 2 0 1 0, set 3 3 3 3, add 2 4 3 0, set 4 4 4 -1, stop 0 0 0 0", -1)
        self.check(main("x = 2 * 3 * 4 - (5 - 6)"), 9,
                   "set 0 0 0 2, set 1 1 1 3, mul 2 0 1 0, set 3 3 3 4, mul 4 2 3 0, set 5 5 5 5, set 6 6 6 6, "
                   "add 5 7 6 0, add 4 8 7 0, stop 0 0 0 0")
        self.check(main("tell 1", "tell 2", "tell 3"), 3, "set 0 0 0 1, set 0 0 0 30, set 1 1 1 2, set 1 1 1 20, "
                   "set 2 2 2 3, set 2 2 2 10, stop 0 0 0 0", 30, 20, 10)

    def test_claims(self):
        self.check(main("ask a", "claim a * a == 9"), 4,
                   "set 0 0 0 0, ask 1 1 1 0, mul 2 1 1 0, set 3 3 3 9, add 2 3 0 0, stop 0 0 0 0")

    def test_rows(self):
        self.check(main("row r 2", "x = r[0]"), 9,
                   "set 2 2 2 0, set 3 3 3 1, add 2 4 3 0, mul 5 2 4 0, set 5 5 5 0, here 6 6 6 0, add 7 6 2 0, "
                   "same 8 7 0 0, stop 0 0 0 0")
        self.check(main("ask a", "row r 4", "r[a] = a"), 16,
                   "ask 0 0 0 0, set 5 5 5 1, add 0 6 5 0, mul 7 0 6 0, set 8 8 8 2, add 0 9 8 0, mul 10 7 9 0, "
                   "set 11 11 11 3, add 0 12 11 0, mul 13 10 12 0, set 13 13 13 0, here 14 14 14 1, add 15 14 0 0, "
                   "same 0 15 0 0, stop 0 0 0 0")
        self.check(main("row r 8"), 8, "stop 0 0 0 0")
        self.check(main("row r 2", "row s 8", "ask x"), 11, "ask 10 10 10 0, stop 0 0 0 0")

    def test_calls(self):
        self.check(main("x = f()") + "\nfun f\ngive 3\nend", 1,
                   "call 0 0 1 2, stop 0 0 0 0, set 0 0 0 3, same 0 -1 0 0, ret -3 -2 -1 0")
        self.check(main("row r 2", "ask a", "tell f(a, r, a + 1)") + "\nfun f x row s 2 y\ngive g(s, x)\nend"
                   "\nfun g row t 2 z\ngive t[z]\nend", 10,
                   "set 0 0 0 0, ask 3 3 3 0, set 4 4 4 1, add 5 3 4 0, add 6 3 0 0, here 7 7 7 1, add 8 5 0 0, "
                   "call 6 0 7 10, set 9 9 9 44, stop 0 0 0 0, same 0 -1 0 0, same 1 -1 0 1, same 2 -1 0 2, set 3 3 3 0, "
                   "add 4 1 3 0, add 5 0 3 0, call 4 0 7 19, same 6 -1 0 3, ret -3 -2 -1 0, same 0 -1 0 0, same 1 -1 0 1, "
                   "set 2 2 2 1, add 1 3 2 0, mul 4 1 3 0, set 4 4 4 0, add 5 0 1 0, same 6 5 0 0, same 6 -1 0 2, "
                   "ret -3 -2 -1 0", 44)

    def test_which_bodies_have_a_zero(self):
        for lines, zero in ((("x = 1 * 2",), False), (("row r 2", "r[1] = 7"), False), (("x = f()",), False),
                            (("x = f() + (f())",), False), (("claim 1 == 1",), True), (("if 1", "else", "end"), True),
                            (("x = g(1)",), True), (("x = 1 - (2 * g(f()))",), True), (("row r 2", "r[g(1)] = 1"), True),
                            (("row r 2", "r[1] = g(1)"), True), (("tell g(1)",), True), (("row r 2", "x = r[g(1)]"), True)):
            text = main(*lines) + "\nfun f\ngive 1\nend\nfun g a\ngive a\nend"
            outputs = [1] * sum(line.startswith("tell") for line in lines)
            listing = code(text, *outputs)[1]
            self.assertIs(listing[0] == "set 0 0 0 0", zero)
            self.assertEqual(listing, Code(text, outputs).listing())
        text = main("x = 1") + "\nfun f a b\nx = 1\nclaim x == a\ngive x\nend"
        self.assertEqual(code(text)[1][2:6], ["same 0 -1 0 0", "same 1 -1 0 1", "set 2 2 2 0", "set 3 3 3 1"])
        # The zero of a body hangs on this body only.
        self.assertEqual(code(main("claim 1 == 1") + "\nfun f\ngive 1\nend")[1][-3:],
                         ["set 0 0 0 1", "same 0 -1 0 0", "ret -3 -2 -1 0"])

    def test_choices(self):
        self.check(main("if 1", "else", "end"), 4, "set 0 0 0 0, set 1 1 1 1, jz 1 1 2 4, jz 0 0 3 4, stop 0 0 0 0")
        text = main("ask a", "if a", "z = 1", "b = a", "row r 2", "else", "ask b c", "z = b", "end", "tell z + b")
        self.assertEqual(code(text, 8), (12, [
            "set 0 0 0 0", "ask 1 1 1 0", "jz 1 1 2 7", "set 6 6 6 1", "add 3 1 0 0", "add 4 6 0 0", "jz 0 0 5 11",
            "ask 9 9 9 0", "ask 10 10 10 0", "add 3 9 0 0", "add 4 9 0 0", "add 11 4 3 0", "set 11 11 11 8",
            "stop 0 0 0 0"]))

    def test_choices_within_one_another(self):
        text = main("ask a", "if a", "if a - 1", "b = 1", "else", "b = 2", "end", "else", "b = 3", "end", "tell b")
        self.check(text, 13, "set 0 0 0 0, ask 1 1 1 0, jz 1 1 2 13, set 5 5 5 1, add 1 6 5 0, jz 6 6 7 9, set 10 10 10 1, "
                   "add 8 10 0 0, jz 0 0 9 11, set 11 11 11 2, add 8 11 0 0, add 3 8 0 0, jz 0 0 4 15, set 12 12 12 3, "
                   "add 3 12 0 0, set 3 3 3 4, stop 0 0 0 0", 4)

    def test_jumps_in_functions(self):
        text = main("x = f(1)") + "\nfun f a\nif a\nb = 1\nelse\nb = 2\nend\ngive b\nend"
        listing = code(text)[1]
        self.assertEqual([line for line in listing if line.startswith("jz")], ["jz 0 0 2 11", "jz 1 1 4 13"])
        self.assertEqual((listing[11], listing[13]), ("set 6 6 6 2", "same 3 -1 0 1"))

    def test_against_a_second_compiler(self):
        lengths = []
        for seed in range(800):
            text = Chance(seed).text()
            notes = Notes.read(text)
            outputs = [seed - 7 * at for at in range(notes.tells)]
            told = Code(text, outputs)
            lengths.append(len(told.lines))
            if len(told.lines) <= 120:
                program = compiled(notes, outputs)
                self.assertEqual((program.listing(), program.frame), (told.listing(), told.frames[""]), text)
            else:
                with self.assertRaises(TooMany):
                    compiled(notes, outputs)
        self.assertTrue(min(lengths) < 5 and max(lengths) > 120)

    def test_is_compiled_again(self):
        notes = Notes.read(SQUARE_TEXT)
        self.assertEqual(compiled(notes, [10]), SQUARE)
        self.assertEqual(compiled(notes, [10]), SQUARE)
        self.assertEqual(notes.written(), SQUARE_TEXT)


class RefusedTests(unittest.TestCase):
    def test_outputs(self):
        for tells in range(4):
            notes = Notes.read(main(*["tell {}".format(at) for at in range(tells)]))
            for count in range(6):
                outputs = [5] * count
                if count == tells:
                    self.assertEqual(len(compiled(notes, outputs)), 2 * tells + 1)
                    self.assertEqual(compiled(notes, tuple(outputs)), compiled(notes, outputs))
                else:
                    with self.assertRaises(BadShape) as held:
                        compiled(notes, outputs)
                    self.assertEqual((held.exception.what, held.exception.count), ("outputs", count))
            for value in no_lists():
                with self.assertRaises(BadShape) as held:
                    compiled(notes, value)
                self.assertEqual(held.exception.what, "outputs")
                self.assertIsNone(held.exception.count)
        with self.assertRaises(BadShape) as held:
            compiled(Notes.read(main("tell 1")))
        self.assertEqual(held.exception.count, 0)

    def test_outputs_stand_as_they_are(self):
        for output in (0, -1, 257, 9999999999, -9999999999):
            self.assertEqual(code(main("tell 1"), output)[1][1], "set 0 0 0 {}".format(output))
        notes = Notes.read(main("tell 1", "tell 2"))
        outputs = [3, 4]
        program = compiled(notes, outputs)
        outputs[0] = 9
        self.assertEqual(program.lines[1].imm, 3)

    def test_outputs_of_too_many_digits(self):
        for output in (10 ** 10, -10 ** 10, 999999999999):
            for outputs in ([output, 1], [1, output]):
                with self.assertRaises(BadLine) as held:
                    compiled(Notes.read(main("tell 1", "tell 2")), outputs)
                self.assertEqual(held.exception.field, "imm")

    def text_of(self, count):
        """A text with so many lines of code, at least 25."""
        names = ["x" + one + other for one in "abcdefgh" for other in "abcdefghijklmnopq"]
        rows = ["row r 8", "r[0] = 0"]  # 25 lines of code with the stop.
        left = count - len(code(main(*rows))[1])
        many = min(left, 70)
        lines = ["{} = {}".format(name, 1) for name in names[:many - 1]]
        if many > 0:
            lines.append("{} = {}".format(names[many - 1], " + ".join(["1"] * ((left - many) // 2 + 1))))
        if (left - many) % 2:
            lines.append("ask last")
        return main(*rows, *lines)

    def test_119_to_122_lines(self):
        for count in (119, 120):
            self.assertEqual(len(code(self.text_of(count))[1]), count)
        for count in (121, 122, 160):
            text = self.text_of(count)
            self.assertEqual(len(Code(text, []).lines), count)
            with self.assertRaises(TooMany) as held:
                compiled(Notes.read(text))
            self.assertEqual((held.exception.what, held.exception.most), ("lines", 120))

    def test_lines_of_functions_count(self):
        begin, rest = "\n".join(self.text_of(116).split("\n")[:-1]), "\nfun f\ngive {}\nend"
        self.assertEqual(len(code(begin + "\nend" + rest.format("1"))[1]), 119)
        self.assertEqual(len(code(begin + "\nask y\nend" + rest.format("1"))[1]), 120)
        for text in (begin + "\nend" + rest.format("1 + 1"), begin + "\nask y z\nend" + rest.format("1")):
            with self.assertRaises(TooMany):
                compiled(Notes.read(text))

    def test_which_error_comes_first(self):
        text = "\n".join(self.text_of(122).split("\n")[:-1]) + "\ntell 1\nend"
        for value in ([], [1, 2], None, 5):
            with self.assertRaises(BadShape):
                compiled(Notes.read(text), value)
        with self.assertRaises(TooMany):
            compiled(Notes.read(text), [10 ** 10])

    def test_long_lines(self):
        for sign in ("+", "*", "-"):
            with self.assertRaises(TooMany):
                compiled(Notes.read(main("x = " + (" " + sign + " ").join(["1"] * 4900))))


class FactTests(unittest.TestCase):
    def walked(self, notes, secrets, p):
        try:
            return walk(notes, secrets, p=p)
        except Broken:
            return None

    def test_machines_tell_what_walks_tell(self):
        kinds = {}
        for seed in range(2000):
            chance, notes = random.Random(seed), Notes.read(Chance(seed).text())
            p = chance.choice(sorted(LISTED)[2:])
            secrets = [chance.choice((0, 1, 2, 3, -1, 10 ** 9)) for _ in range(chance.choice((0, 1, 3, 6, 9)))]
            try:
                told = self.walked(notes, secrets, p)
                outputs = told.outputs if told else [1] * notes.tells
                program = compiled(notes, outputs)
            except TooMany:
                continue
            made = done(program, secrets, p)
            if made == ("long",) or not program.apart(p, 64):
                continue
            if told is None:
                self.assertEqual(made[0], "broken")
            else:
                self.assertEqual(made[:2], ("done", told.used))
                for at in range(len(outputs)):
                    other = list(outputs)
                    other[at] += 1 + seed % (p - 1)
                    self.assertEqual(done(compiled(notes, other), secrets, p)[0], "broken")
                shifted = [output - p for output in outputs]
                self.assertEqual(done(compiled(notes, shifted), secrets, p), made)
            kinds[made[0]] = kinds.get(made[0], 0) + 1
        self.assertTrue(min(kinds["done"], kinds["broken"]) > 200)

    def test_too_few_secrets(self):
        program = compiled(Notes.read(SQUARE_TEXT), [10])
        self.assertEqual(done(program, [], 257), ("broken", 1, "secrets"))
        self.assertEqual(done(program, [3, 4], 257), ("done", 1, 11))
        self.assertEqual(done(program, [4], 257), ("broken", 6, "cell"))


if __name__ == "__main__":
    unittest.main()
