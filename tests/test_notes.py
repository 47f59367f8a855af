import random
import unittest

from shownrun.errors import BadProgram, TooMany
from shownrun.notes import Notes
from tests.texts import Chance
from tests.values import no_lists, no_numbers

WORDS = "main end fun ask row claim if else tell give".split()
FULL = """main
ask x y
row r 4
r[x + 1] = f(r, 2 * (x - y))
claim x == y * y
if x - 1
z = 5
row s 2
if z
else
end
else
ask z
end
tell z
tell r[0] - none()
end

fun f row r 4 n
m = n + 1
claim (m) == n
give r[m] * f(r, (m))
end
fun none
give 0
end
"""


def around(line):
    """A text with a line behind some others; it is line 5."""
    return "main\nask a b\nrow r 2\nrow q 4\nc = 1\n" + line + "\nend\nfun one x\ngive x\nend\nfun two x row y 4\n" \
        "give x\nend\nfun none\ngive 1\nend\n"


def nested(depth):
    """A main body with choices within one another in their yes parts."""
    return "main\n" + "if 1\n" * depth + "else\nend\n" * depth + "end\n"


class Checking(unittest.TestCase):
    def wrong(self, text, line, why):
        with self.assertRaises(BadProgram) as held:
            Notes.read(text)
        self.assertEqual((held.exception.line, held.exception.why), (line, why), text)

    def right(self, text):
        notes = Notes.read(text)
        self.assertIsInstance(notes, Notes)
        return notes


class RightTests(Checking):
    def test_a_text_with_every_kind_of_line(self):
        notes = self.right(FULL)
        self.assertEqual(notes.written(), FULL.replace("\n\n", "\n"))
        self.assertEqual((notes.tells, notes.functions, len(notes)), (2, ("f", "none"), 25))
        self.assertEqual(repr(notes), "Notes(25 lines)")

    def test_the_least_text(self):
        for text in ("main\nend", "main\nend\n", "\n main \n\n  end\n\n\n", "main\n   \nend\n   "):
            notes = self.right(text)
            self.assertEqual((notes.written(), notes.tells, notes.functions), ("main\nend\n", 0, ()))
            self.assertEqual((len(notes), repr(notes)), (2, "Notes(2 lines)"))

    def test_by_name(self):
        self.assertEqual(Notes.read(text="main\nend"), Notes.read("main\nend\n"))

    def test_functions_and_their_parameters(self):
        for count in range(9):
            names = ["abcdefghi"[at] for at in range(count)]
            for parameters in (names, ["row {} {}".format(name, 2 + 2 * (name in "bdf")) for name in names]):
                text = "main\nend\n" + " ".join(["fun abcdefgh"] + parameters) + "\ngive 1\nend\n"
                notes = self.right(text)
                self.assertEqual((notes.functions, notes.written()), (("abcdefgh",), text))
        names = tuple("abcdefghijklmnopqrstuvwxy")
        notes = self.right("main\nend\n" + "".join("fun " + name + "\ngive 1\nend\n" for name in names))
        self.assertEqual((notes.functions, len(notes)), (names, 77))

    def test_choices_and_brackets_up_to_6_deep(self):
        for depth in range(1, 7):
            self.right(nested(depth))
            self.right("main\n" + "if 1\nelse\n" * depth + "end\n" * depth + "end\n")
            self.right(around("tell " + "(" * depth + "a" + ")" * depth))
            self.right(around("tell " + "r[" * depth + "a" + "]" * depth))
            self.right(around("tell " + "one(" * depth + "a" + ")" * depth))
            self.right(around("r[" + "(" * (depth - 1) + "a" + ")" * (depth - 1) + "] = " + "(" * depth + "a" + ")" * depth))
        self.right(around("tell (one(r[(one(r[1]))])) + ((((((1)))))) * ((((((2))))))"))
        self.right("main\n" + nested(6)[5:-4] + nested(6)[5:-4] + "end\n")

    def test_names_and_numbers(self):
        for name in ("a", "z", "abcdefgh", "mains", "en", "asks", "iff", "tells", "xend", "rowrow", "g"):
            notes = self.right("main\nask {0}\ntell {0} + {0}(1)\nend\nfun {0} {0}\ngive {0}\nend".format(name))
            self.assertEqual(notes.functions, (name,))
        for number in ("0", "1", "10", "999999999", "100000000", "123456789"):
            self.assertEqual(self.right(around("tell " + number)).tells, 1)

    def test_spaces(self):
        chance = random.Random(5)
        for seed in range(60):
            text = Chance(seed).text()
            lines = []
            for line in text.split("\n")[:-1]:
                made = ""
                for at, sign in enumerate(line):
                    close = line[at - 1:at] + sign in ("==",) or (at > 0 and line[at - 1].isalnum() and sign.isalnum())
                    made += ("" if close else " " * chance.randint(0, 2)) + sign
                lines.append(made + " " * chance.randint(0, 2))
                lines += ["", "  "][:chance.choice((0, 0, 0, 1, 2))]
            if len(lines) <= 80:
                self.assertEqual(self.right("\n".join(lines)).written(), text)

    def test_without_spaces(self):
        for close, wide in (("x=a+b*c-r[a]", "x = a + b * c - r[a]"), ("claim a==b", "claim a == b"),
                            ("claim(a)==(b)", "claim (a) == (b)"), ("if(a)\nelse\nend", "if (a)\nelse\nend"),
                            ("tell(a)", "tell (a)"), ("tell two ( a,q )", "tell two(a, q)"),
                            ("tell  none ( )", "tell none()"), ("r [a ] = ( 1)", "r[a] = (1)"),
                            ("r[(a)]=((b))", "r[(a)] = ((b))"), ("tell one((a)+(b))", "tell one((a) + (b))"),
                            ("tell two((a),q)*(b)-(a)", "tell two((a), q) * (b) - (a)"),
                            ("tell two( (a) ,q)", "tell two((a), q)"), ("x=(r[((a))])", "x = (r[((a))])"),
                            ("tell two(1,q)", "tell two(1, q)"), ("x=one(none())", "x = one(none())")):
            self.assertEqual(self.right(around(close)).written(), around(wide))
            self.assertEqual(self.right(around(wide)).written(), around(wide))

    def test_written_and_read_again(self):
        for seed in range(200):
            text = Chance(seed).text()
            notes = self.right(text)
            self.assertEqual(notes.written(), text)
            self.assertEqual(self.right(notes.written()), notes)
            self.assertEqual(len(notes), text.count("\n"))
            self.assertEqual(notes.tells, sum(line.startswith("tell ") for line in text.split("\n")))

    def test_equal(self):
        notes = self.right("main\ntell 1\nend")
        self.assertTrue(notes == self.right(" main\n\ntell  1\nend\n"))
        self.assertFalse(notes != self.right(" main\n\ntell  1\nend\n"))
        for other in (self.right("main\ntell 2\nend"), self.right("main\ntell (1)\nend"), self.right("main\nend"),
                      self.right("main\ntell 1\ntell 1\nend")):
            self.assertIs(notes == other, False)
        for value in no_lists() + no_numbers() + ["main\ntell 1\nend\n", notes.written()]:
            self.assertIs(notes == value, False)

    def test_80_lines(self):
        for text in ("main\n" + "\n" * 78 + "end", "main\n" + "tell 1\n" * 78 + "end\n", "\n" * 78 + "main\nend\n"):
            self.right(text)
            for longer in ("\n" + text, text.replace("main\n", "main\n\n"), "x y z (\n" + text):
                with self.assertRaises(TooMany) as held:
                    Notes.read(longer)
                self.assertEqual((held.exception.what, held.exception.most), ("lines", 80))
        for text in ("x\n" * 81, "\n" * 81, "\n" * 80 + "x", "main\nend\n" + "\n" * 78 + " "):
            with self.assertRaises(TooMany):
                Notes.read(text)
        self.wrong("x\n" * 80, 0, "form")
        self.wrong("\n" * 80, 80, "end")
        self.wrong("\n" * 79 + "x", 79, "form")


class FormTests(Checking):
    def test_values_that_are_no_strings(self):
        for value in [value for value in no_lists() + no_numbers() if not isinstance(value, str)] + [["main", "end"]]:
            self.wrong(value, 0, "form")

    def test_no_lines(self):
        for text, line in (("", 0), ("\n", 1), ("\n\n\n", 3), ("  ", 1), (" \n  \n", 2), ("\n\n  ", 3)):
            self.wrong(text, line, "end")

    def test_no_end(self):
        for text in ("main", "main\nask x", "main\n\ntell 1", "main\nif 1\nelse\nend", "main\nif 1", "main\nif 1\nelse",
                     "main\nend\nfun f", "main\nend\nfun f\ngive 1", "main\nend\n\nfun f\nx = 1",
                     "main\nend\nfun f\ngive 1\nend\nfun g\ngive 1"):
            count = len(text.split("\n"))
            self.wrong(text, count, "end")
            self.wrong(text + "\n", count, "end")
            self.wrong(text + "\n\n", count + 1, "end")
            self.wrong(text + "\n ", count + 1, "end")

    def test_no_end_counts_ahead_of_the_names_and_behind_the_form(self):
        self.wrong("main\ntell x\nend\nfun f", 4, "end")
        self.wrong("main\ntell x y\nend\nfun f", 1, "form")
        self.wrong("main\ntell x\nend\nfun f\ntell 1", 4, "form")
        self.wrong("main\ntell x\nend\nend", 3, "form")

    def test_lines_that_begin_a_body(self):
        for line in ("ask x", "x = 1", "end", "fun f", "else", "mains", "main main", "main 1", "main x", "1", "(", "Main"):
            self.wrong(line + "\nmain\nend", 0, "form")
            self.wrong("\n\n" + line + "\nmain\nend", 2, "form")
        for line in ("ask x", "x = 1", "end", "else", "main", "tell 1", "give 1", "f", "fun", "fun 1", "fun f,", "fun f ()",
                     "fun f (a)", "fun f 1", "fun f row", "fun f row r", "fun f row r 3", "fun f row r 02", "fun f row r a",
                     "fun f row 2 r", "fun f a row", "fun f, a", "fun f a, b", "fun f row r 16", "fun f row r 2 2",
                     "fun f row row 2", "fun abcdefghi", "fun f abcdefghi", "fun F", "fun f1", "fun a b c d e f g h i j",
                     "fun f a b c d e f g h row i 2"):
            self.wrong("main\nend\n" + line + "\ngive 1\nend", 2, "form")
            self.wrong("main\nend\nfun z\ngive 1\nend\n" + line + "\ngive 1\nend", 5, "form")
        for word in WORDS:
            self.wrong("main\nend\nfun " + word + "\ngive 1\nend", 2, "form")
            if word != "row":
                self.wrong("main\nend\nfun f " + word + "\ngive 1\nend", 2, "form")
            self.wrong("main\nend\nfun f row " + word + " 2\ngive 1\nend", 2, "form")

    def test_lines_of_no_form(self):
        for line in ("ask", "ask 1", "ask x, y", "ask x 1", "ask x =", "asks x", "ask (x)", "ask r[0]", "ask x1",
                     "x", "x =", "= 1", "x = = 1", "x == 1", "x === 1", "x = 1 2", "x = a b", "1 = x", "x = 1 =", "x y = 1",
                     "x = 1,", "x(1) = 2", "x = ()", "x = -1", "x = +1", "x = 1 +", "x = 1 + - 2", "x = 1 ** 2", "x = * 1",
                     "x = (1", "x = 1)", "x = (1))", "x = (1]", "x = [1]", "x = r[1)", "x = r[]", "x = r[1", "x = r[1, 2]",
                     "x = one(1", "x = one(1,)", "x = one(,1)", "x = one(1 2)", "x = one(1;2)", "x = one(1)(2)",
                     "x = r[1][0]", "x = one(1)[0]", "x = (r)[0]", "x = 1(2)", "x = (one)(1)", "x = 1[0]", "x = a == b",
                     "row", "row x", "row x 1", "row x 3", "row x 0", "row x 16", "row x 02", "row x 2 4", "row x y", "row 2",
                     "row x 2 y", "row x [2]", "row x (2)", "r[0]", "r[0] == 1", "r[] = 1", "r[0] =", "r[0] = 1 = 2",
                     "r[0][1] = 1", "[0] = 1", "r(0) = 1", "r[0 = 1", "r 0] = 1", "claim", "claim a", "claim a = b",
                     "claim a == b == c", "claim == b", "claim a ==", "claim a = = b", "claim a === b", "claim (a == b)",
                     "if", "if a b", "if a == b", "if =", "else", "else 1", "tell", "tell a b", "tell a, b", "tell = a",
                     "give 1", "give", "main", "fun f", "fun", "end end", "end 1", "one(1)", "a", "a + b", "1", "()",
                     "tell abcdefghi", "tell aB", "tell A", "tell 1a", "tell a1", "tell 12a3", "abcdefghi = 1",
                     "tell 1_0", "tell a.b", "tell a;", "tell a / b", "tell a & b", "tell !a", "tell \"a\"", "tell 'a'",
                     "tell a ~ b", "tell {a}", "tell a < b", "tell a # b", "tell @", "tell $", "tell a ^ b", "tell `a`",
                     "tell a | b", "tell a ? b", "tell a : b", "tell a \\ b", "tell a > b", "#", "_", "tell _a"):
            self.wrong(around(line), 5, "form")
            self.wrong(around(line + "\ntell unknown +"), 5, "form")
            self.wrong(around("tell unknown\n" + line), 6, "form")

    def test_words_are_no_names(self):
        for word in WORDS:
            for line in ("ask {}", "ask x {}", "{} = 1", "row {} 2", "x = {}", "x = 1 + {}", "x = {}[0]", "x = {}(1)",
                         "{}[0] = 1", "tell {}", "claim {} == 1", "if {}", "tell one({})"):
                self.wrong(around(line.format(word)), 5, "form")

    def test_numbers(self):
        for number in ("00", "01", "007", "0123456789", "1234567890", "0000000000", "9999999999", "12345678901", "1 2"):
            for line in ("tell {}", "x = 1 + {}", "r[{}] = 1", "claim 1 == {}", "tell one({})"):
                self.wrong(around(line.format(number)), 5, "form")

    def test_seven_brackets(self):
        for line in ("tell " + "(" * 7 + "1" + ")" * 7, "tell " + "r[" * 7 + "1" + "]" * 7,
                     "tell " + "one(" * 7 + "1" + ")" * 7, "tell " + "one(" * 6 + "none()" + ")" * 6,
                     "r[" + "(" * 6 + "1" + ")" * 6 + "] = 1", "r[1] = ((((((r[1]))))))",
                     "tell (one(r[(one(r[(1)]))]))", "tell 1 + (1 + (1 + (1 + (1 + (1 + (1 + (1)))))))",
                     "claim 1 == (((((((1)))))))"):
            self.wrong(around(line), 5, "form")
        self.right(around("r[" + "(" * 5 + "1" + ")" * 5 + "] = ((((((1))))))"))

    def test_seven_choices(self):
        self.wrong(nested(7), 7, "form")
        self.wrong("main\n" + "if 1\nelse\n" * 7 + "end\n" * 7 + "end\n", 13, "form")
        self.wrong("main\nend\nfun f\n" + "if 1\n" * 7 + "else\nend\n" * 7 + "give 1\nend", 9, "form")
        self.wrong("main\n" + "if 1\nelse\nend\n" * 7 + "tell unknown\nend", 22, "name")

    def test_nine_parameters(self):
        self.wrong("main\nend\nfun f a b c d e f g h i\ngive 1\nend", 2, "form")
        self.wrong("main\nend\nfun f row a 2 b c d e f g h row i 2\ngive 1\nend", 2, "form")
        self.wrong("main\nend\nfun f a a a a a a a a a\ngive 1\nend", 2, "form")

    def test_the_places_of_tell_give_else_and_end(self):
        for text, line in (("main\nif 1\ntell 1\nelse\nend\nend", 2), ("main\nif 1\nelse\ntell 1\nend\nend", 3),
                           ("main\nend\nfun f\ntell 1\ngive 1\nend", 3), ("main\ngive 1\nend", 1),
                           ("main\nif 1\ngive 1\nelse\nend\nend", 2), ("main\nend\nfun f\nif 1\ngive 1\nelse\nend\nend", 4),
                           ("main\nend\nfun f\nif 1\nelse\ngive 1\nend\ngive 1\nend", 5),
                           ("main\nend\nfun f\nend", 3), ("main\nend\nfun f\nx = 1\n\nend", 5),
                           ("main\nend\nfun f\nif 1\nelse\nend\nend", 6), ("main\nend\nfun f\ngive 1\nask x\nend", 4),
                           ("main\nend\nfun f\ngive 1\n\ngive 2\nend", 5), ("main\nend\nfun f\ngive 1\nif 1\nelse\nend\nend", 4),
                           ("main\nend\nfun f\ngive 1\nelse\nend", 4), ("main\nend\nfun f\ngive 1\nfun g\ngive 1\nend", 4),
                           ("main\nend\nfun f\ngive 1\ntell 1\nend", 4), ("main\nend\nfun f\ngive 1\nmain\nend", 4),
                           ("main\nif 1\nend\nend", 2), ("main\nif 1\nelse\nelse\nend\nend", 3), ("main\nelse\nend", 1),
                           ("main\nif 1\nelse\nend\nelse\nend", 4), ("main\nend\nend", 2), ("main\nend\nelse", 2),
                           ("main\nif 1\nelse\nend\nend\nend", 5), ("main\nmain\nend\nend", 1), ("main\nfun f\ngive 1\nend", 1),
                           ("main\nif 1\nfun f\ngive 1\nend\nelse\nend\nend", 2), ("main\nend\nfun f\ngive 1\nend\nend", 5),
                           ("main\nend\nmain\nend", 2)):
            self.wrong(text, line, "form")
        self.right("main\nend\nfun f\ngive 1\n\n  \nend")
        self.right("main\nif 1\n\nelse\n\nend\n\ntell 1\nend")

    def test_the_least_line_counts(self):
        self.wrong("main\ntell unknown\nx = \ny = (\nend", 2, "form")
        self.wrong("main\n\n\nask 1\nask 2", 3, "form")
        self.wrong("x\n" * 3, 0, "form")


class NameTests(Checking):
    def test_names_that_are_not_known(self):
        for line in ("x = x", "x = u", "tell u", "claim a == u", "claim u == a", "if u\nelse\nend", "r[u] = 1", "r[0] = u",
                     "u[0] = 1", "x = u[0]", "x = r[u]", "x = one(u)", "x = two(1, u)", "x = two(u, q)", "x = (u)",
                     "x = a + b * u", "x = one", "x = none", "x = one[0]", "one[0] = 1", "x = two(1, one)"):
            self.wrong(around(line), 5, "name")
        self.wrong("main\ntell x\nask x\nend", 1, "name")
        self.wrong("main\nask x\nend\nfun f\ngive x\nend", 4, "name")
        self.wrong("main\ntell a\nend\nfun f a\ngive a\nend", 1, "name")
        self.wrong("main\nend\nfun f a\ngive a\nend\nfun g\ngive a\nend", 6, "name")

    def test_names_that_are_taken(self):
        for line in ("ask a", "ask x a", "ask x x", "a = 1", "a = a", "r = 1", "row a 2", "row r 2", "ask r", "ask c", "c = c"):
            self.wrong(around(line), 5, "name")
        self.wrong("main\nend\nfun f a a\ngive 1\nend", 2, "name")
        self.wrong("main\nend\nfun f a row a 2\ngive 1\nend", 2, "name")
        self.wrong("main\nend\nfun f row a 2 a\ngive 1\nend", 2, "name")
        self.wrong("main\nend\nfun f a\na = 1\ngive 1\nend", 3, "name")
        self.wrong("main\nend\nfun f row a 2\nask a\ngive 1\nend", 3, "name")
        self.right("main\nask f a\nend\nfun f f\na = f\ngive a\nend\nfun a a\ngive a\nend")

    def test_functions(self):
        for line in ("x = unknown(1)", "x = a(1)", "x = r(1)", "x = one(unknown())", "x = c()"):
            self.wrong(around(line), 5, "name")
        self.wrong("main\nend\nfun f\ngive 1\nend\nfun f\ngive 1\nend", 5, "name")
        self.wrong("main\nend\nfun f\ngive 1\nend\nfun f a a\ngive b\nend", 5, "name")
        self.wrong("main\nend\nfun f\ngive u\nend\nfun f\ngive 1\nend", 3, "name")
        self.wrong("main\ntell f(1)\nend\nfun f\ngive 1\nend\nfun f a\ngive 1\nend", 1, "count")
        self.wrong("main\ntell f()\nend\nfun f\ngive 1\nend\nfun f a\ngive 1\nend", 6, "name")
        self.wrong("main\ntell f(1)\nend\nfun f a\ngive 1\nend\nfun f row a 2\ngive 1\nend", 6, "name")
        self.right("main\ntell f(1)\nend\nfun g a\ngive f(a) + g(a)\nend\nfun f a\ngive g(a) * f(1)\nend")

    def test_kinds(self):
        for line in ("x = r", "x = 1 + r", "x = (r)", "tell r", "r[r] = 1", "r[0] = r", "claim a == r", "claim r == a",
                     "if r\nelse\nend", "a[0] = 1", "x = a[0]", "x = c[0]", "x = r[q]", "x = one(r)", "x = one((r))",
                     "x = one(1 + r)", "x = two(q, q)", "x = two(1, a)", "x = two(1, (q))", "x = two(1, 5)",
                     "x = two(1, q[0])", "x = two(1, u + 1)", "x = two(1, (u))", "x = two(1, u[0])", "x = two(1, u())",
                     "x = two(1, none())", "x = two(1, 1 + unknown(u))"):
            self.wrong(around(line), 5, "kind")

    def test_counts(self):
        for line in ("x = one()", "x = one(1, 2)", "x = none(1)", "x = two(1)", "x = two(1, q, 1)", "x = two()",
                     "x = one(u, u)", "x = none(r)", "x = two(1, r)", "x = one(one())"):
            self.wrong(around(line), 5, "count")
        for size, passed, right in ((2, 2, True), (2, 4, False), (4, 2, False), (8, 8, True), (8, 4, False), (4, 4, True)):
            text = "main\nrow r {}\ntell f(r)\nend\nfun f row r {}\ngive f(r)\nend".format(passed, size)
            if right:
                self.right(text)
            else:
                self.wrong(text, 2, "count")

    def test_the_first_thing_counts(self):
        for line, why in (("x = u + r", "name"), ("x = r + u", "kind"), ("x = one(u, r)", "count"), ("x = one(one()) + u", "count"),
                          ("x = u + one()", "name"), ("a = r", "kind"), ("a = u", "name"), ("a = one()", "count"),
                          ("u[r] = 1", "name"), ("a[u] = 1", "kind"), ("r[u] = r", "name"), ("r[r] = u", "kind"),
                          ("r[0] = one()", "count"), ("x = u[r]", "name"), ("x = a[u]", "kind"), ("x = r[one()] + u", "count"),
                          ("x = two(r, u)", "kind"), ("x = two(u, r)", "name"), ("x = two(1, r) + u", "count"),
                          ("x = two(r, r)", "kind"), ("x = two(1 + u, (u))", "name"), ("x = unknown(r, u)", "name"),
                          ("claim r == u", "kind"), ("claim u == r", "name"), ("ask x a", "name"), ("row a 8", "name")):
            self.wrong(around(line), 5, why)
        self.wrong("main\ntell r\nrow r 2\ntell r\nend", 1, "name")
        self.wrong("main\nrow r 2\ntell r\ntell u\nend", 2, "kind")
        self.wrong("main\nend\nfun f\ngive f(1)\nend\nfun f\ngive u\nend", 3, "count")
        self.wrong("main\nend\nfun f a\ngive r\nend\nfun f b b\ngive 1\nend", 3, "name")

    def test_choices(self):
        begin = "main\nask a\nif a\n{}\nelse\n{}\nend\n{}\nend"
        for yes, other, behind, told in (
                ("x = 1", "x = 2", "tell x", None), ("ask x", "x = 2", "tell x", None), ("x = a", "ask y x", "tell x", None),
                ("x = 1", "", "tell x", (7, "name")), ("", "x = 1", "tell x", (7, "name")),
                ("row x 2", "row x 2", "x[0] = 1", (7, "name")), ("row x 2", "row x 2", "tell x", (7, "name")),
                ("row x 2", "x = 1", "tell x", (7, "name")), ("x = 1", "row x 2", "x[0] = 1", (7, "name")),
                ("x = 1", "", "x = 1", (7, "name")), ("", "ask x", "row x 2", (7, "name")),
                ("row x 2", "", "ask x", (7, "name")), ("x = 1", "x = 2", "x = 3", (7, "name")),
                ("x = 1", "y = x", "", (5, "name")), ("x = 1", "y = 1", "z = 1", None), ("tell = 1", "", "", (3, "form")),
                ("a = 1", "", "", (3, "name")), ("", "a = 1", "", (5, "name")), ("x = a", "x = x", "", (5, "name")),
                ("row x 2\nx[0] = 1", "x = 1\ny = x", "", None), ("x = 1\nx = 2", "", "", (4, "name"))):
            text = begin.format(yes, other, behind)
            if told is None:
                self.right(text)
            else:
                self.wrong(text, *told)

    def test_choices_within_one_another(self):
        inner = "if a\nx = 1\nelse\nx = 2\nend"
        self.right("main\nask a\nif a\n" + inner + "\nelse\nx = 3\nend\ntell x\nend")
        self.right("main\nask a\nif a\n" + inner + "\nelse\n" + inner + "\nend\ntell x\nend")
        half = "if a\nx = 1\nelse\nend"
        self.wrong("main\nask a\nif a\n" + half + "\nelse\nx = 3\nend\ntell x\nend", 10, "name")
        self.wrong("main\nask a\nif a\n" + half + "\nelse\nend\nx = 3\nend", 9, "name")
        self.wrong("main\nask a\nif a\n" + half + "\nx = 1\nelse\nend\nend", 7, "name")
        self.wrong("main\nask a\nif a\n" + inner + "\nx = 4\nelse\nend\nend", 8, "name")
        self.wrong("main\nask a\nif a\n" + inner + "\nelse\nend\ntell x\nend", 10, "name")
        self.right("main\nask a\nif a\n" + half + "\nelse\nx = 3\ny = x\nend\ntell a\nend")

    def test_names_known_ahead_of_a_choice_are_known_behind_it(self):
        self.right("main\nask a\nrow r 2\nif a\nr[0] = a\nelse\nr[1] = a\nend\ntell r[0] + a\nend")
        self.wrong("main\nask a\nrow r 2\nif a\nelse\nend\ntell r\nend", 6, "kind")
        self.right("main\nend\nfun f a row r 2\nif r[a]\nb = a\nelse\nask b\nend\ngive b + r[b]\nend")


if __name__ == "__main__":
    unittest.main()
