import unittest

from shownrun.errors import BadBook, NotWaiting
from shownrun.lines import Line, Program
from shownrun.books import book, read_book
from shownrun.reasons import reason
from shownrun.talk import Talk, held
from shownrun.tellers import of_rows
from tests.samples import CHOICE, SAMPLES, SMALL, SMALL_ROWS, SMALL_WRONG, SQUARE, coins_of
from tests.talks import LAYERS, all_cases
from tests.values import FITTING, no_lists, no_numbers, numbers


def program_line(program):
    line = "program " + str(program.frame)
    for item in program.lines:
        line += " / {} {} {} {} {}".format(item.op, item.a, item.b, item.c, item.imm)
    return line


def numbers_line(word, items):
    return word + "".join(" " + str(item) for item in items)


def told_book(talk):
    """The book of a talk by the words of [46]."""
    lines = ["talk {} {} {}".format(talk.p, talk.rows, talk.looks), program_line(talk.program)]
    heads = [0, 16] + [90 + i for i in range(1, LAYERS[talk.rows] + 2)]
    heard = 0
    for step, head in enumerate(heads):
        try:
            laid = talk.laid(step)
        except LookupError:
            break
        lines += ["coin " + str(coin) for coin in talk.heard[heard:head]]
        heard = head
        if step == 0:
            lines += [numbers_line("word", word) for word in laid[0]] + [numbers_line("counts", laid[1])]
        elif step == 1:
            lines += [numbers_line("word", word) for word in laid]
        else:
            lines.append("number " + str(laid) if isinstance(laid, int) else numbers_line("layer", laid))
    lines += ["coin " + str(coin) for coin in talk.heard[heard:]] + ["look " + str(look) for look in talk.looked]
    return "".join(line + "\n" for line in lines)


def all_talks(program, rows, coins, looks):
    """The talk in each of its states, one behind another."""
    teller, step = of_rows(program, rows), 0
    talk = Talk(program, p=rows.p, rows=len(rows), looks=len(looks))
    yield talk.twin()
    while talk.waits != "done":
        if talk.waits == "coin":
            talk.coin(coins[len(talk.heard)])
        elif talk.waits == "look":
            talk.look(looks[len(talk.looked)])
        else:
            talk.lay(teller(step, talk.heard))
            step += 1
        yield talk.twin()


def state(talk):
    laid = []
    for step in range(10):
        try:
            laid.append(talk.laid(step))
        except LookupError:
            laid.append(None)
    return (talk.program, talk.p, talk.rows, talk.looks, talk.waits, talk.waits_for, talk.heard, talk.looked,
            talk.verdict, talk.layered, laid, repr(talk))


class BookTests(unittest.TestCase):
    def test_in_each_state(self):
        for (program, rows), looks in zip(SAMPLES[:4], ([5, -1], [], [70], [0, 0, 3])):
            coins = coins_of(len(rows), 3, rows.p)
            for at, talk in enumerate(all_talks(program, rows, coins, looks)):
                made = book(talk)
                self.assertEqual(made, told_book(talk))
                self.assertEqual(book(talk=talk), made)
                if at < 3 or at % 7 == 0 or at > 90:
                    again = read_book(program, made)
                    self.assertIsInstance(again, Talk)
                    self.assertEqual(state(again), state(talk))
                    self.assertEqual(book(again), made)
                    self.assertEqual(book(read_book(text=made, program=program)), made)

    def test_ahead_of_the_tables(self):
        for p, rows in FITTING:
            for looks in (0, 1, 60):
                talk = Talk(CHOICE, p=p, rows=rows, looks=looks)
                told = "talk {} {} {}\n".format(p, rows, looks) + program_line(CHOICE) + "\n"
                self.assertEqual(book(talk), told)
                self.assertEqual(state(read_book(CHOICE, told)), state(talk))

    def test_programs_as_they_were_given(self):
        program = Program([Line("set", -9999999999, 9999999999, -1, 0), Line("ret", 1, -2), Line("stop")], 999999)
        talk = Talk(program, p=257, rows=4, looks=7)
        told = "talk 257 4 7\nprogram 999999 / set -9999999999 9999999999 -1 0 / ret 1 -2 0 0 / stop 0 0 0 0\n"
        self.assertEqual(book(talk), told)
        self.assertEqual(book(read_book(program, told)), told)
        talk = Talk(Program([Line("stop")] * 120, 0), p=193, rows=4, looks=0)
        self.assertEqual(book(read_book(talk.program, book(talk))), book(talk))

    def test_all_cases(self):
        for case in all_cases():
            made = book(case.talk)
            self.assertEqual(made, told_book(case.talk))
            again = read_book(case.program, made)
            self.assertEqual(state(again), state(case.talk))
            self.assertEqual(book(again), made)
        self.assertEqual(reason(again), reason(case.talk))

    def test_failed_looks(self):
        talk = held(SMALL_WRONG, of_rows(SMALL_WRONG, SMALL_ROWS.changed("imm", 2, 10)), coins_of(4), [0, 1, 8], p=257, rows=4)
        self.assertEqual(talk.verdict, "look")
        again = read_book(SMALL_WRONG, book(talk))
        self.assertEqual((again.verdict, again.looked, reason(again)), ("look", [0, 1, 8], reason(talk)))

    def test_a_talk_that_is_read_goes_on(self):
        coins = coins_of(4, 3)
        for at, talk in enumerate(all_talks(SMALL, SMALL_ROWS, coins, [5, 6])):
            if talk.waits == "coin" and at % 10 == 0:
                again = read_book(SMALL, book(talk))
                again.coin(7)
                self.assertEqual(again.heard, talk.heard + [7])

    def test_not_of_a_talk_that_a_wrong_shape_ended(self):
        for talk in all_talks(SMALL, SMALL_ROWS, coins_of(4), [1]):
            if talk.waits in ("tables", "later", "layer", "number"):
                talk.lay(None)
                with self.assertRaises(NotWaiting) as caught:
                    book(talk)
                self.assertEqual(caught.exception.what, "book")
        talk = Talk(SMALL, p=257, rows=4, looks=0)
        talk.lay(([[0] * 64] * 29, [5, 0, 0, 0]))
        self.assertEqual(talk.verdict, "counts")
        with self.assertRaises(NotWaiting):
            book(talk)


class WrongBookTests(unittest.TestCase):
    @classmethod
    def setUpClass(cls):
        coins = coins_of(4, 3)
        cls.talk = held(SMALL, of_rows(SMALL, SMALL_ROWS), coins, [5, 6], p=257, rows=4)
        cls.lines = book(cls.talk).split("\n")[:-1]
        # talk, program, 29 words, counts, 16 coins, 7 words, 75 coins, layer, coin, layer, coin, number, 2 looks
        assert len(cls.lines) == 2 + 30 + 16 + 7 + 75 + 5 + 2

    def refused(self, text, line, program=SMALL):
        for _ in range(2):
            with self.assertRaises(BadBook) as caught:
                read_book(program, text)
            self.assertEqual(caught.exception.line, line)
            self.assertIs(type(caught.exception.line), int)

    def text(self, lines):
        return "".join(line + "\n" for line in lines)

    def test_the_right_one(self):
        self.assertEqual(state(read_book(SMALL, self.text(self.lines))), state(self.talk))

    def within(self, count):
        """Whether so many lines end within what is laid at once, or ahead of the program."""
        return count < 2 or 2 < count < 32 or 48 < count < 55

    def test_cut_anywhere(self):
        for count in range(len(self.lines) + 1):
            text = self.text(self.lines[:count])
            if self.within(count):
                self.refused(text, count)
            else:
                self.assertEqual(book(read_book(SMALL, text)), text)
            if count:
                # Without the last line feed, and with characters behind it.
                self.refused(text[:-1], count - 1)
            for more in ("x", " ", "coin", "coin 5", "word", self.lines[count] if count < len(self.lines) else "look 5"):
                self.refused(text + more, count)

    def test_each_line_left_out(self):
        for at in range(len(self.lines)):
            lines = self.lines[:at] + self.lines[at + 1:]
            told = self.first_wrong(lines)
            if told is None:
                # A coin or a look less: what is laid next comes too early.
                self.assertTrue(self.lines[at].startswith("look"))
                self.assertEqual(book(read_book(SMALL, self.text(lines))), self.text(lines))
            else:
                self.refused(self.text(lines), told)

    def first_wrong(self, lines):
        """The least wrong line, by the words that stand in the lines' places."""
        words = ["talk", "program"] + ["word"] * 29 + ["counts"] + ["coin"] * 16 + ["word"] * 7 + ["coin"] * 75
        words += ["layer", "coin", "layer", "coin", "number", "look", "look"]
        sizes = {"word": 64, "counts": 4, "coin": 1, "number": 1, "look": 1, "talk": 3}
        layers = [32, 16]
        for at, line in enumerate(lines):
            if at == len(words):
                return at
            found = line.split(" ")
            size = sizes.get(words[at], None) or (layers.pop(0) if words[at] == "layer" else len(found) - 1)
            if found[0] != words[at] or len(found) != size + 1:
                return at
        return len(lines) if self.within(len(lines)) else None

    def test_each_line_doubled(self):
        for at in range(len(self.lines)):
            lines = self.lines[:at + 1] + self.lines[at:]
            told = self.first_wrong(lines)
            self.assertIsNotNone(told)
            self.refused(self.text(lines), told)

    def test_lines_exchanged(self):
        for at in range(len(self.lines) - 1):
            lines = list(self.lines)
            lines[at], lines[at + 1] = lines[at + 1], lines[at]
            told = self.first_wrong(lines)
            if told is None:
                self.assertEqual(book(read_book(SMALL, self.text(lines))), self.text(lines))
            else:
                self.refused(self.text(lines), told)

    def test_changed_signs_in_each_kind_of_line(self):
        for at in (0, 1, 2, 30, 31, 32, 47, 48, 54, 55, 129, 130, 131, 132, 133, 134, 135, 136):
            line = self.lines[at]
            words = line.split(" ")
            last = words[-1]
            changed = [" " + line, line + " ", line + "\r", line.replace(" ", "  ", 1), line.upper(), line[1:], "", words[0],
                       line + " 0", line + " x", line + ",", line.replace(" ", "\t", 1), words[0] + "s" + line[len(words[0]):],
                       " ".join(words[:-1])]
            for number in ("0" + last, "+" + last, "-" + last, "-1", "x", last + ".", "", "00", "9999999999", "9" * 5000, "1_0",
                           "-0", "\u0665", "\u00b2"):
                changed.append(" ".join(words[:-1] + [number]))
            if at > 1:
                most = {"look": 64, "counts": 5}.get(words[0], 257)
                changed += [" ".join(words[:k] + [str(most)] + words[k + 1:]) for k in {1, len(words) - 1}]
                changed += [" ".join(words[:1] + ["0" + words[1]] + words[2:])]
            for other in changed:
                if other != line:
                    self.refused(self.text(self.lines[:at] + [other] + self.lines[at + 1:]), at)
                    # Whatever stands behind a wrong line, it is the least one.
                    if at > 0:
                        self.refused(self.text(self.lines[:at] + [other, "x", ""]), at)

    def test_worths_up_to_the_prime(self):
        for at, most, line in ((2, 256, "word"), (31, 4, "counts"), (32, 256, "coin"), (48, 256, "word"), (130, 256, "layer"),
                               (134, 256, "number"), (135, 63, "look")):
            self.assertEqual(self.lines[at].split(" ")[0], line)
            words = self.lines[at].split(" ")
            for number in (0, most):
                if line == "counts":
                    text = self.text(self.lines[:at] + ["counts {} 0 {} 0".format(number, 4 - number)])
                else:
                    text = self.text(self.lines[:at] + [" ".join([line, str(number)] + words[2:])] + self.lines[at + 1:])
                if line == "word" and at == 48 or line != "counts":
                    self.assertEqual(book(read_book(SMALL, text)), text)
                else:
                    self.assertEqual(read_book(SMALL, text).laid(0)[1], (number, 0, 4 - number, 0))

    def test_counts(self):
        for counts in ("1 1 1 2", "0 0 0 0", "4 0 0", "4", "", "1 1 1 1 0", "5 0 0 0", "-1 5 0 0", "2 2 0 1", "4 0 0 00"):
            self.refused(self.text(self.lines[:31] + ["counts " + counts]), 31)
        for counts in ("4 0 0 0", "0 0 0 4", "2 1 0 1"):
            text = self.text(self.lines[:31] + ["counts " + counts])
            self.assertEqual(book(read_book(SMALL, text)), text)

    def test_first_lines(self):
        rest = self.lines[1:]
        for line in ("talk 257 4 61", "talk 257 16 2", "talk 193 8 2", "talk 256 4 2", "talk 65537 4 2", "talk 257 5 2",
                     "talk 0257 4 2", "talk 257 4", "talk 257 4 2 2", "talk", "", "talk 257 4 -1", "talk +257 4 2", "talk 257  4 2",
                     "Talk 257 4 2", "talk 2013265922 4 2", "talk 2013265921 128 2", "talk 257 4 100", "talk 257 0 2", "program 2",
                     "talk 4 257 2", "talk 257,4,2", "talk 257 4 02"):
            self.refused(self.text([line] + rest), 0)
            self.refused(line, 0)
        for line in ("talk 257 4 0", "talk 257 4 60", "talk 2013265921 64 7"):
            text = self.text([line, self.lines[1]])
            self.assertEqual(book(read_book(SMALL, text)), text)
        # Without looks the talk is done, and a look is one line too many.
        self.refused(self.text(["talk 257 4 0"] + rest), len(self.lines) - 2)
        self.refused(self.text(["talk 257 4 1"] + rest), len(self.lines) - 1)
        text = self.text(["talk 257 4 3"] + rest)
        self.assertEqual(read_book(SMALL, text).waits, "look")
        self.refused(self.text(["talk 257 8 2"] + rest), 2)

    def test_other_programs(self):
        for program in (SMALL_WRONG, SQUARE, Program(SMALL.lines, 3), Program(SMALL.lines[:3], 2),
                        Program(SMALL.lines + (Line("stop"),), 2)):
            self.refused(self.text(self.lines), 1, program)
            self.refused(self.text(self.lines[:2]), 1, program)
        # The same program modulo the prime was given otherwise.
        other = Program([Line("set", 257, 0, 0, 3)] + list(SMALL.lines[1:]), 2)
        self.refused(self.text(self.lines), 1, other)
        line = self.lines[1]
        for wrong in (line + " /", line.replace(" / ", " /", 1), line.replace("set", "add"), line.replace(" / ", "/"),
                      "program 2", line.replace("program 2", "program 02"), line.replace("program 2", "program"),
                      line.replace("set 0", "set -0"), line.replace("3", "03"), line.replace("stop 0 0 0 0", "stop")):
            self.assertNotEqual(wrong, line)
            self.refused(self.text([self.lines[0], wrong] + self.lines[2:]), 1)

    def test_values_that_are_no_strings(self):
        for value in no_lists() + no_numbers() + [self.lines, tuple(self.lines), self.talk, SMALL, b"talk 257 4 2\n"]:
            if not isinstance(value, str):
                self.refused(value, 0)

    def test_odd_texts(self):
        for text in ("", "\n", " ", " \n", "talk", "talk\n", "\n\n\n", "x\ntalk 257 4 2\n"):
            self.refused(text, 0)
        self.refused("talk 257 4 2\n", 1)
        self.refused("talk 257 4 2\n\n", 1)
        self.refused(self.text(self.lines) + "\n", len(self.lines))
        self.refused(self.text(self.lines) + " ", len(self.lines))
        self.refused(self.text(self.lines[:2]) + "\n", 2)
        self.refused(self.text(["", *self.lines]), 0)

    def test_done_talks_end(self):
        for more in ("look 5", "coin 5", "number 5", "layer 0 0", "word", "talk 257 4 2", ""):
            self.refused(self.text(self.lines + [more]), len(self.lines))
            self.refused(self.text(self.lines + [more, more]), len(self.lines))

    def test_great_talks(self):
        for p, rows in ((769, 16), (12289, 64)):
            program = Program([Line("stop")], 0)
            words = [numbers(k, 16 * rows, 0, p - 1) for k in range(36)]
            talk = Talk(program, p=p, rows=rows, looks=2)
            talk.lay((words[:29], [rows]))
            talk.do(*[("coin", n) for n in range(16)])
            talk.lay(words[29:])
            talk.do(*[("coin", n) for n in range(75)])
            text = book(talk)
            self.assertEqual(text, told_book(talk))
            self.assertEqual(state(read_book(program, text)), state(talk))
            self.refused(text.replace("word ", "word 0", 1), 2, program)


if __name__ == "__main__":
    unittest.main()
