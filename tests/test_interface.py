"""The whole interface: names, arguments and where they stand, and the rules of the files of the package."""

import ast
import importlib
import inspect
import os
import unittest

import shownrun

# Each module with what the interface lists under its heading. A class has its methods behind it, indented; those that
# stand without brackets are properties, and those with a star ahead are static.
LISTED = """
errors
  InvalidError
  UnknownError
  StateError
  BadProgram(line, why)
  BadLine(field)
  BadPrime(p, rows)
  BadShape(what, count)
  BadBook(line)
  TooMany(what, most)
  NotNear(e)
  UnknownName(name)
  Broken(line, why)
  NotWaiting(what)
primes
  PRIMES
  ROWS
  is_number(value, least, most)
  fits(p, rows)
  generator(p)
  inverse(worth, p)
  power(worth, count, p)
polys
  Poly(coefficients=(), *, p)
    degree
    __call__(x)
    __add__(other)
    __sub__(other)
    __mul__(other)
    scaled(worth)
    stepped(worth)
    divided(other)
    *through(points, *, p)
    __eq__(other)
    __repr__()
codes
  Code(places, degree, *, p)
    degree
    distance
    paired
    word(poly)
    half()
    __len__()
    __eq__(other)
    __repr__()
near
  combined(words, worths, *, p)
  parted(code, word, poly)
  mended(code, word, e)
  within(code, word, e)
  together(code, words, e)
  near_worths(code, one, other, e, *carried)
  line_lot(code, one, other, e, *carried)
  in_line_lot(code, one, other, e, worth, *carried)
  mix_lot(code, base, words, coins, at, e)
  in_mix_lot(code, base, words, coins, at, e)
folds
  fold(code, word, coin)
  even_odd(code, word)
  fold_lot(code, word, e)
  in_fold_lot(code, word, coin, e)
  good_places(code, words, coins)
bags
  Bag(*items)
    times(item)
    listed()
    merged(worth, *, p)
    product(worth, *, p)
    __add__(other)
    __contains__(item)
    __len__()
    __eq__(other)
    __repr__()
  merge_lot(one, other, *, p)
  product_lot(one, other, *, p)
  in_merge_lot(one, other, worth, *, p)
  in_product_lot(one, other, worth, *, p)
seals
  Opening(at, leaf, path)
    __eq__(other)
  Clash(one, other)
    __eq__(other)
  Tree(leaves, digest)
    root
    size
    opening(at)
  opens(root, opening, size, digest)
  clash(root, one, other, size, digest)
places
  Places(p, rows)
    size
    degree
    bad
    layers
    root
    row_root
    place(at)
    row_place(at)
    layer(at)
    near(at)
    stretched(column)
    stretched_poly(column)
    column(poly)
    divisor(kind, at)
    all_places()
    __eq__(other)
    __repr__()
notes
  Notes
    *read(text)
    written()
    tells
    functions
    __len__()
    __eq__(other)
    __repr__()
walking
  Walked(outputs, used)
    used
    __eq__(other)
  walk(notes, secrets=(), *, p)
lines
  OPS
  Line(op, a=0, b=0, c=0, imm=0)
    fields(at, *, p)
    __eq__(other)
    __str__()
  Program(lines, frame=0)
    listing()
    apart(p, rows)
    fields(counts, *, p)
    closing(counts, draws)
    __len__()
    __eq__(other)
    __repr__()
scheme
  compiled(notes, outputs=())
machine
  Machine(program, secrets=(), *, p)
    pc
    fp
    ap
    done
    used
    steps
    step()
    cell(address)
    twin()
    __repr__()
runs
  run(program, secrets=(), *, p)
  Run(program, registers, touches, used, *, p)
    used
    gaps
    needs
    __len__()
    __eq__(other)
  lines_done(program, secrets=(), *, p)
  secrets_of(program, registers, touches, *, p)
rows
  COLUMNS
  Rows(columns, *, p)
    row(at)
    column(name)
    changed(name, at, worth)
    register_rows()
    triples()
    touch_pairs()
    sorted_touches()
    fields()
    counted(program)
    secrets(program)
    __len__()
    __eq__(other)
    __repr__()
  filled(run, rows)
  is_run(program, rows)
draws
  Draws(coins, *, p)
    mix(fields)
    touch(address, worth)
    __eq__(other)
  coin_names(rows)
equations
  KINDS
  equation(number, here, behind, draws, *, frame, closing)
  later(rows, draws)
  failing(columns, draws, *, frame, closing)
  failing_first(rows, *, frame)
mixed
  Mixed(program, counts, words, coins, *, p, rows)
    quotient_at(place)
    worth_at(place)
    quotients()
    word()
talk
  Talk(program, *, p, rows, looks)
    waits
    waits_for
    heard
    looked
    verdict
    layered
    lay(value)
    coin(number)
    look(number)
    passes(number)
    laid(step)
    do(*deeds)
    peek(*deeds)
    mixed()
    twin()
    __repr__()
  held(program, teller, coins, looks, *, p, rows)
tellers
  Tables(program, words, counts, later, *, p, rows)
    __call__(step, heard)
  of_rows(program, rows, counts=None)
  house(program, secrets=(), *, p, rows=None)
  Changed(teller, *changes)
    __call__(step, heard)
audit
  Audit(talk)
    word(layer)
    good(layer)
    bad_places()
    quotients()
    column_words()
    together(count=36)
    mended(count=36)
    in_lot(name)
    coin_lot(name)
reasons
  Reason
    passed
    kind
  Refused(verdict, at=0)
    verdict
    __eq__(other)
  Missed(bad)
    bad
    __eq__(other)
  Unlucky(name, worth)
    __eq__(other)
  Found(columns, lot)
    mended_rows(p, rows)
    __eq__(other)
  reason(talk)
  holds(talk, reason)
bound
  lot_parts(rows)
  bound(*, p, rows, looks)
sealed
  Sealed(p, rows, counts, coins, number, looks, roots, openings)
    *of(talk, digest)
    changed(look, at, opening)
    __eq__(other)
  sealed_passes(program, sealed, digest)
books
  book(talk)
  read_book(program, text)
day
  day(text, secrets, coins, looks, *, p, rows=None)
  Day(outputs, program, talk, reason, bound)
"""


def listed():
    """The list of pairs (module, what it has), each of these a pair (entry, its methods)."""
    made = []
    for line in LISTED.strip("\n").split("\n"):
        if not line.startswith(" "):
            made.append((line, []))
        elif not line.startswith("    "):
            made[-1][1].append((line.strip(), []))
        else:
            made[-1][1][-1][1].append(line.strip())
    return made


def signature(function, without_first):
    """The arguments of a function as the document writes them."""
    parameters = list(inspect.signature(function).parameters.values())[int(without_first):]
    return str(inspect.Signature(parameters))


class InterfaceTests(unittest.TestCase):
    def test_names_and_arguments(self):
        for name, entries in listed():
            module = importlib.import_module("shownrun." + name)
            for entry, methods in entries:
                word, bracket, rest = entry.partition("(")
                value = getattr(module, word)
                if word.isupper():
                    self.assertIs(type(value), tuple)
                    continue
                self.assertEqual(value.__module__, "shownrun." + name, entry)
                if bracket and inspect.isclass(value):
                    self.assertEqual(signature(value.__init__, True), bracket + rest, entry)
                    self.assertIn("__init__", vars(value))
                elif bracket:
                    self.assertEqual(signature(value, False), bracket + rest, entry)
                for method in methods:
                    self.check_method(value, method)

    def check_method(self, kind, method):
        word, bracket, rest = method.lstrip("*").partition("(")
        # Each method stands in the body of the class itself.
        self.assertIn(word, vars(kind), (kind, method))
        found = vars(kind)[word]
        if method.startswith("*") and bracket:
            self.assertIsInstance(found, staticmethod)
            self.assertEqual(signature(getattr(kind, word), False), bracket + rest)
        elif bracket:
            self.assertEqual(signature(found, True), bracket + rest, (kind, method))
        else:
            self.assertIsInstance(found, property, (kind, method))

    def test_modules(self):
        folder = os.path.dirname(shownrun.__file__)
        for name, _ in listed():
            self.assertTrue(os.path.exists(os.path.join(folder, name + ".py")), name)

    def test_bases_of_errors(self):
        from shownrun import errors
        bases = {"InvalidError": ValueError, "UnknownError": LookupError, "StateError": RuntimeError}
        for name, base in bases.items():
            self.assertEqual(getattr(errors, name).__bases__, (base,))

    def test_kinds_of_reasons(self):
        from shownrun import reasons
        for name in ("Refused", "Missed", "Unlucky", "Found"):
            self.assertEqual(getattr(reasons, name).__bases__, (reasons.Reason,))


class FileTests(unittest.TestCase):
    """What can be seen of the rules for files: sizes, characters, imports, and words that are not used."""

    def setUp(self):
        self.folder = os.path.dirname(shownrun.__file__)
        self.files = {}
        for name in sorted(os.listdir(self.folder)):
            if name != "__pycache__":
                self.assertTrue(name.endswith(".py") and name == name.lower(), name)
                with open(os.path.join(self.folder, name), encoding="ascii") as file:
                    self.files[name] = file.read()

    def test_sizes_and_characters(self):
        for name, text in self.files.items():
            lines = text.split("\n")
            self.assertLessEqual(len(lines), 400, name)
            self.assertTrue(all(len(line) <= 120 for line in lines), name)
            self.assertTrue(all(line == line.rstrip() for line in lines), name)
            self.assertTrue(all(" " <= letter <= "~" or letter == "\n" for letter in text), name)
            for node in ast.walk(ast.parse(text)):
                if isinstance(node, ast.FunctionDef):
                    self.assertLessEqual(node.end_lineno - node.lineno + 1, 40, (name, node.name))

    def test_imports(self):
        edges = {}
        for name, text in self.files.items():
            edges[name[:-3]] = []
            for node in ast.walk(ast.parse(text)):
                self.assertNotIsInstance(node, ast.Import, name)
                if isinstance(node, ast.ImportFrom):
                    self.assertTrue(node.module.startswith("shownrun.") and node.level == 0, name)
                    self.assertTrue(all(alias.asname is None for alias in node.names), name)
                    edges[name[:-3]].append(node.module.split(".")[1])
        # No two files import from each other, neither directly nor through other files.
        left = dict(edges)
        while left:
            free = [name for name, others in left.items() if not any(other in left for other in others)]
            self.assertTrue(free, sorted(left))
            for name in free:
                del left[name]

    def test_what_is_not_used(self):
        kinds = (ast.GeneratorExp, ast.NamedExpr, ast.Global, ast.AsyncFunctionDef, ast.Div, ast.Pow, ast.Set, ast.SetComp)
        for name, text in self.files.items():
            for node in ast.walk(ast.parse(text)):
                self.assertNotIsInstance(node, kinds, name)
                if isinstance(node, ast.Constant):
                    self.assertNotIsInstance(node.value, float, name)
                    if isinstance(node.value, str):
                        self.assertNotIn("%", node.value, name)


if __name__ == "__main__":
    unittest.main()
