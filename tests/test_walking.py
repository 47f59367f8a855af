import random
import unittest

from shownrun.errors import Broken, TooMany
from shownrun.notes import Notes
from shownrun.walking import Walked, walk
from tests.texts import Chance, Walk
from tests.values import LISTED, no_lists, no_numbers

SQUARE = "main\nask x\ntell sq(x) + 1\nend\nfun sq a\ngive a * a\nend\n"
PRIMES = sorted(LISTED)


def walked(text, *secrets, p=257):
    made = walk(Notes.read(text), list(secrets), p=p)
    return made.outputs, made.used


def main(*lines):
    return "\n".join(("main",) + lines + ("end",))


class WalkedTests(unittest.TestCase):
    def test_attributes(self):
        outputs = [1, 2]
        made = Walked(outputs, 3)
        outputs.append(4)
        self.assertEqual((made.outputs, made.used), ((1, 2), 3))
        made = Walked(used=0, outputs=())
        self.assertEqual((made.outputs, made.used), ((), 0))

    def test_equal(self):
        self.assertTrue(Walked([1, 2], 3) == Walked((1, 2), 3))
        self.assertFalse(Walked([1, 2], 3) != Walked((1, 2), 3))
        for other in (Walked([1], 3), Walked([2, 1], 3), Walked([1, 2], 4), ((1, 2), 3)):
            self.assertIs(Walked([1, 2], 3) == other, False)
        for value in no_lists() + no_numbers():
            self.assertIs(Walked([1, 2], 3) == value, False)


class WalkTests(unittest.TestCase):
    def test_the_example(self):
        made = walk(Notes.read(SQUARE), [3], p=257)
        self.assertIsInstance(made, Walked)
        self.assertEqual(made, Walked([10], 1))
        self.assertEqual(walk(notes=Notes.read(SQUARE), secrets=(3,), p=257), Walked([10], 1))
        text = main("ask a", "if a", "b = 5", "else", "b = a + 1", "end", "tell b")
        self.assertEqual(walked(text, 0), ((1,), 1))
        self.assertEqual(walked(text, 7), ((5,), 1))

    def test_expressions(self):
        for text, told in (("1 + 2 * 3", 7), ("(1 + 2) * 3", 9), ("10 - 3 - 2", 5), ("10 - (3 - 2)", 9), ("2 - 3", 256),
                           ("2 * 3 * 4", 24), ("1 - 2 * 3 + 4", 256), ("300", 43), ("999999999", 999999999 % 257),
                           ("((((((7))))))", 7), ("16 * 16 + 1", 0), ("0 - 1", 256), ("2 * (3 + 4) * (5 - 1)", 56)):
            self.assertEqual(walked(main("tell " + text)), ((told,), 0))

    def test_of_all_primes(self):
        for p in PRIMES:
            for secret in (3, -3, p + 3, 5 * p - 1, 9999999999, -9999999999):
                self.assertEqual(walked(SQUARE, secret, p=p), (((secret * secret + 1) % p,), 1))
            self.assertEqual(walked(main("tell 999999999 * 999999999 - 5"), p=p), (((999999999 ** 2 - 5) % p,), 0))

    def test_secrets(self):
        text = main("ask x y", "tell x", "tell y", "ask z", "tell z - x")
        self.assertEqual(walked(text, 1, 2, 3), ((1, 2, 2), 3))
        self.assertEqual(walked(text, 1, 2, 3, 4, 5), ((1, 2, 2), 3))
        self.assertEqual(walked(text, -1, 257, 600), ((256, 0, 87), 3))
        self.assertEqual(walk(Notes.read(main("tell 1")), p=257), Walked([1], 0))
        self.assertEqual(walk(Notes.read(main("tell 1")), [5], p=257), Walked([1], 0))
        secrets = [3, 4]
        walk(Notes.read(SQUARE), secrets, p=257)
        self.assertEqual(secrets, [3, 4])

    def test_no_outputs(self):
        self.assertEqual(walk(Notes.read("main\nend"), [1], p=193), Walked([], 0))

    def test_rows(self):
        text = main("row r 4", "r[0] = 5", "r[1 + 2] = r[0] + 1", "r[0] = 5", "tell r[3]", "tell r[2] + r[2]", "tell r[1]")
        self.assertEqual(walked(text, 7, 8, 9), ((6, 14, 8), 2))
        for size in (2, 4, 8):
            lines = ["row r {}".format(size)] + ["r[{}] = {}".format(at, at * at) for at in range(size)]
            told = tuple(at * at for at in range(size))
            self.assertEqual(walked(main(*lines, *["tell r[{}]".format(at) for at in range(size)])), (told, 0))

    def test_a_cell_that_is_read_takes_a_secret(self):
        text = main("row r 2", "row s 2", "r[s[1]] = s[0] - s[0]", "tell r[1]", "tell r[0] + s[0]")
        self.assertEqual(walked(text, 1, 6, 9), ((0, 15), 3))
        self.assertEqual(walked(text, 0, 6, 9), ((9, 6), 3))

    def test_a_cell_that_its_own_value_gives_a_worth(self):
        self.assertEqual(walked(main("row r 2", "r[0] = r[0]", "tell r[0]"), 8), ((8,), 1))
        self.broken(main("row r 2", "r[0] = r[0] + 1"), 2, "cell", 8)
        self.broken(main("row r 2", "r[0] = f(r)") + "\nfun f row a 2\na[0] = 1\ngive 2\nend", 2, "cell")
        self.assertEqual(walked(main("row r 2", "r[0] = f(r)", "tell r[0]") + "\nfun f row a 2\na[0] = 2\ngive 2\nend"),
                         ((2,), 0))

    def test_rows_that_are_handed_on(self):
        text = main("row r 2", "tell f(r, 3) + f(r, 3)", "tell r[0]", "tell r[1]") \
            + "\nfun f row a 2 n\na[0] = n\ngive g(a)\nend\nfun g row b 2\nb[1] = b[0] + 1\ngive b[1]\nend"
        self.assertEqual(walked(text), ((8, 3, 4), 0))
        self.broken(text.replace("tell f(r, 3) + f(r, 3)", "tell f(r, 3) + f(r, 4)"), 7, "cell")
        text = main("row r 2", "row s 2", "tell f(r, s) + r[0] + s[0]") + "\nfun f row s 2 row r 2\ns[0] = 1\nr[0] = 10\ngive 100\nend"
        self.assertEqual(walked(text), ((111,), 0))
        text = main("row r 2", "tell f(r, r)") + "\nfun f row a 2 row b 2\na[0] = 4\nb[1] = b[0]\ngive a[1]\nend"
        self.assertEqual(walked(text), ((4,), 0))

    def test_rows_of_a_body_are_new_in_each_call(self):
        text = main("tell f(1) + f(2)") + "\nfun f n\nrow r 2\nr[0] = n\ngive r[0] + r[1]\nend"
        self.assertEqual(walked(text, 10, 20), ((33,), 2))

    def test_names_of_a_body_are_its_own(self):
        text = main("x = 1", "y = f(x + 1)", "tell x", "tell y") + "\nfun f y\nx = y * 10\ngive x\nend"
        self.assertEqual(walked(text), ((1, 20), 0))

    def test_functions_that_call_one_another_and_themselves(self):
        text = main("ask n", "tell even(n)") + "\nfun even n\nif n\nask x\ny = odd(n - 1) + x\nelse\ny = 1\nend\ngive y\nend" \
            "\nfun odd n\nif n\ny = even(n - 1)\nelse\ny = 0\nend\ngive y\nend"
        self.assertEqual(walked(text, 4, 10, 20, 99), ((31,), 3))
        self.assertEqual(walked(text, 3, 10, 20, 99), ((30,), 3))
        text = main("tell fac(5)") + "\nfun fac n\nif n\nm = n * fac(n - 1)\nelse\nm = 1\nend\ngive m\nend"
        self.assertEqual(walked(text, p=7681), ((120,), 0))

    def test_the_order_of_secrets(self):
        text = main("row r 4", "ask a", "tell f(r[0] - r[0] + a, r[1] - r[1]) * 1000 + r[2]", "tell r[3]") \
            + "\nfun f x y\nask z\ngive x + z\nend"
        self.assertEqual(walked(text, 1, 2, 3, 4, 5, 6, p=12289), ((5005, 6), 6))
        text = main("row r 2", "claim r[0] - r[0] == r[1] - r[1]", "tell r[0]", "tell r[1]")
        self.assertEqual(walked(text, 5, 6), ((5, 6), 2))
        text = main("row r 2", "row s 2", "r[r[1]] = s[0]", "tell r[0]", "tell s[1]")
        self.assertEqual(walked(text, 0, 6, 7), ((6, 7), 3))

    def test_choices(self):
        text = main("ask a", "row r 2", "if a - 1", "r[0] = 3", "if a", "b = 1", "else", "b = 2", "end", "else", "ask b", "end",
                    "tell b", "tell r[0]")
        self.assertEqual(walked(text, 5), ((1, 3), 1))
        self.assertEqual(walked(text, 0), ((2, 3), 1))
        self.assertEqual(walked(text, 1, 8, 9), ((8, 9), 3))

    def broken(self, text, line, why, *secrets, p=257):
        with self.assertRaises(Broken) as held:
            walk(Notes.read(text), secrets, p=p)
        self.assertEqual((held.exception.line, held.exception.why), (line, why))

    def test_secrets_that_are_due(self):
        self.broken(main("ask x"), 1, "secrets")
        self.broken(main("", "ask x y", "ask z"), 2, "secrets", 1)
        self.broken(main("ask x y", "", " ", "ask z"), 4, "secrets", 1, 2)
        self.broken(main("row r 2", "tell r[0]"), 2, "secrets")
        self.broken(main("row r 2", "r[r[0]] = 1"), 2, "secrets")
        self.broken(main("row r 2", "r[0] = r[1]"), 2, "secrets")
        self.broken(main("tell f()") + "\nfun f\n\nask x\ngive x\nend", 5, "secrets")
        self.broken(main("row r 2", "tell f(r)") + "\nfun f row a 2\ngive a[1]\nend", 5, "secrets")
        self.broken(main("tell f() + f()", "ask x") + "\nfun f\nask x\ngive x\nend", 5, "secrets", 1)
        self.broken(main("x = f()", "ask y") + "\nfun f\nask x\ngive x\nend", 2, "secrets", 1)

    def test_indices(self):
        for size in (2, 4, 8):
            for at in ("{}".format(size), "0 - 1", "999999999", "256", "100 * 100"):
                for line in ("r[{}] = 1", "tell r[{}]", "r[{}] = r[9]", "x = r[0] + r[{}]"):
                    self.broken(main("row r {}".format(size), "r[0] = 1", line.format(at)), 3, "index")
            self.assertEqual(walked(main("row r {}".format(size), "tell r[257]", "tell r[256 + {}]".format(size)), 4, 5),
                             ((4, 5), 2))
        self.broken(main("row r 4", "tell f(r, 4)") + "\nfun f row a 4 n\ngive a[n]\nend", 5, "index")

    def test_cells_and_claims(self):
        self.broken(main("row r 2", "r[0] = 1", "r[0] = 2"), 3, "cell")
        self.broken(main("row r 2", "r[0] = r[1]", "r[1] = 2"), 3, "cell", 1)
        self.assertEqual(walked(main("row r 2", "r[0] = 1", "r[0] = 258")), ((), 0))
        self.broken(main("claim 1 == 2"), 1, "claim")
        self.broken(main("ask x", "claim x == x + 1"), 2, "claim", 1)
        self.broken(main("tell f(1)") + "\nfun f n\nclaim n == 2\ngive 1\nend", 4, "claim")
        self.assertEqual(walked(main("ask x", "claim x == 3"), 260), ((), 1))
        self.broken(main("ask x", "claim x == 3"), 2, "claim", 260, p=193)

    def test_which_comes_first(self):
        begin = ("row r 2", "r[0] = 1")
        for line, why in (("r[2] = u[0]", "index"), ("r[0] = r[1]", "secrets"), ("r[u[0]] = r[2]", "secrets"),
                          ("r[1 + 1] = r[1]", "index"), ("r[1] = r[2]", "index"), ("claim r[1] == r[2]", "secrets"),
                          ("claim r[2] == r[1]", "index"), ("claim r[0] == r[2]", "index"), ("r[0] = 2", "cell"),
                          ("r[0] = 1 + r[1]", "secrets"), ("x = r[2] + r[1]", "index"), ("x = r[1] + r[2]", "secrets"),
                          ("x = f(r[1], r[2])", "secrets"), ("x = f(r[2], r[1])", "index"), ("x = 0 * r[1]", "secrets")):
            self.broken(main("row u 2", *begin, line) + "\nfun f a b\nclaim 1 == 2\ngive 1\nend", 4, why)
        self.broken(main("x = f(1)", "claim 1 == 2") + "\nfun f a\nclaim a == 2\ngive 1\nend", 5, "claim")
        self.broken(main("claim 1 == 2", "ask x"), 1, "claim")

    def test_nothing_is_done_behind_it(self):
        self.assertEqual(walked(main("if 0", "claim 1 == 2", "else", "end", "tell 3")), ((3,), 0))
        self.assertEqual(walked(main("if 1", "else", "ask x", "end", "tell 3")), ((3,), 0))
        self.assertEqual(walked(main("tell 1") + "\nfun f\nask x\ngive x\nend"), ((1,), 0))

    def test_is_walked_again(self):
        notes = Notes.read(main("row r 2", "tell r[0] + f()") + "\nfun f\nrow r 2\ngive r[1]\nend")
        for secrets in ([1, 2], [5, 6], [1, 2]):
            self.assertEqual(walk(notes, secrets, p=257), Walked([sum(secrets)], 2))

    def test_against_a_second_walk(self):
        for seed in range(600):
            text, chance = Chance(seed).text(), random.Random(seed)
            p = chance.choice(PRIMES)
            secrets = [chance.choice((0, 1, 2, 3, -1, 10 ** 9)) for _ in range(chance.choice((0, 1, 3, 6, 9)))]
            try:
                made = walk(Notes.read(text), secrets, p=p)
                self.assertEqual(("walked", made.outputs, made.used), Walk(text, secrets, p).result())
            except Broken as broken:
                self.assertEqual(("broken", broken.line, broken.why), Walk(text, secrets, p).result())
            except TooMany as many:
                self.assertEqual(("many", many.what, many.most), Walk(text, secrets, p).result())


class BoundTests(unittest.TestCase):
    def too_many(self, text, what, most, *secrets):
        with self.assertRaises(TooMany) as held:
            walk(Notes.read(text), secrets, p=7681)
        self.assertEqual((held.exception.what, held.exception.most), (what, most))

    def test_the_400th_and_the_401st_deed(self):
        # A call of f has 65 deeds: a line of its own, and 32 calls of g with two.
        calls = " + ".join(["g()"] * 32)
        rest = "\nfun f\ngive " + calls + "\nend\nfun g\nx = 1\ngive x\nend"
        for ends in (["tell 1"], ["row r 2"], ["ask x"], ["claim 1 == 1"], ["x = 1"], ["if 0", "else", "end"],
                     ["", "if 1", "", "else", "end", ""]):
            # 6 calls have 390 deeds; with their own line and 8 others there are 399.
            lines = ["y = f() + f() + f() + f() + f() + f()"] + ["tell 1"] * 8 + ends
            made = walk(Notes.read(main(*lines) + rest), [1], p=7681)
            self.assertEqual(len(made.outputs), 8 + (ends == ["tell 1"]))
            self.too_many(main("tell 1", *lines) + rest, "deeds", 400, 1)
            self.too_many(main(*lines, "claim 1 == 2") + rest, "deeds", 400, 1)
        lines = ["y = f() + f() + f() + f() + f() + f()"] + ["tell 1"] * 8
        walk(Notes.read(main(*lines, "tell 1") + rest), p=7681)
        with self.assertRaises(Broken):
            walk(Notes.read(main(*lines, "claim 1 == 2", "tell 1") + rest), p=7681)
        with self.assertRaises(Broken):
            walk(Notes.read(main(*lines, "ask x", "tell 1") + rest), p=7681)
        self.too_many(main(*lines, "tell 1", "ask x") + rest, "deeds", 400)

    def test_a_line_of_a_choice_is_a_deed(self):
        rest = "\nfun f n\nif n\nx = f(n - 1)\nelse\nx = 0\nend\ngive x\nend"
        # A call of f(11) has 12 times three deeds; 11 of them and the line that does them are 397.
        lines = ["y = " + " + ".join(["f(11)"] * 11), "tell y"]
        self.assertEqual(walked(main(*lines) + rest), ((0,), 0))
        self.assertEqual(walked(main("y = " + " + ".join(["f(11)"] * 11), *["tell y"] * 3) + rest), ((0,) * 3, 0))
        self.too_many(main("y = " + " + ".join(["f(11)"] * 11), *["tell y"] * 4) + rest, "deeds", 400)

    def test_the_12th_and_the_13th_call(self):
        rest = "\nfun f n\nif n\nx = f(n - 1)\nelse\nx = 7\nend\ngive x\nend"
        self.assertEqual(walked(main("tell f(11)", "tell f(0) + f(11)") + rest), ((7, 14), 0))
        self.too_many(main("tell f(12)") + rest, "calls", 12)
        self.too_many(main("tell f(11)", "tell f(0 - 1)") + rest, "calls", 12)
        self.too_many(main("tell f(11) + f(3) + f(0)", "tell f(12)") + rest, "calls", 12)
        self.too_many(main("tell f()") + "\nfun f\ngive f()\nend", "calls", 12)
        self.too_many(main("tell f()") + "\nfun f\ngive g()\nend\nfun g\ngive f()\nend", "calls", 12)
        self.assertEqual(walked(main("tell g(f(11)) + g(g(g(f(11))))") + rest + "\nfun g n\ngive n\nend"), ((14,), 0))

    def test_the_13th_call_comes_behind_its_arguments(self):
        text = main("row r 2", "tell f(r, 1)") + "\nfun f row a 2 n\ngive f(a, n + a[{}])\nend"
        with self.assertRaises(Broken) as held:
            walk(Notes.read(text.format("n - 1")), [1], p=7681)
        self.assertEqual((held.exception.line, held.exception.why), (5, "secrets"))
        self.too_many(text.format(0), "calls", 12, 0)
        # The argument of the 13th call has an index of 13 - 5.
        for size, told in ((8, True), (4, False)):
            text = main("row r {}".format(size), *["r[{}] = 0".format(at) for at in range(size)], "tell f(r, 0)") \
                + "\nfun f row a {} n\nif n - 11\nx = f(a, n + 1)\nelse\nx = f(a, a[7])\nend\ngive x\nend".format(size)
            if told:
                self.too_many(text, "calls", 12)
            else:
                with self.assertRaises(Broken) as held:
                    walk(Notes.read(text), p=7681)
                self.assertEqual(held.exception.why, "index")

    def test_all_at_the_greatest_depth(self):
        picked = "1 + 1 * r[0 + 1 * r[0 + 1 * r[0 + 1 * r[0 + 1 * r[0 + 1 * f(n, r)]]]]]"
        text = main("row r 2", "r[0] = 0", "tell f(1, r)") + "\nfun f n row r 2\n" + "if n\n" * 6 + "x = " + picked \
            + "\n" + "else\nend\n" * 6 + "give n\nend"
        self.too_many(text, "calls", 12)

    def test_long_lines(self):
        self.assertEqual(walked(main("x = " + " + ".join(["1"] * 4900), "tell x")), ((4900 % 257,), 0))
        self.assertEqual(walked(main("x = " + " * ".join(["3"] * 4900), "tell x")), ((pow(3, 4900, 257),), 0))
        self.assertEqual(walked(main("ask " + " ".join("x" + letter + more for letter in "abcdefghijkl"
                                                       for more in "abcdefghijkl")), *range(144)), ((), 144))


if __name__ == "__main__":
    unittest.main()
