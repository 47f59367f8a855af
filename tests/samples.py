"""What the tests of talks and their parts use: an own reading of the document's equations, runs and tellers.

Nothing here rests on how the package works inside: runs and equations are worked out a second time.
"""

from shownrun.draws import Draws
from shownrun.equations import later
from shownrun.folds import fold
from shownrun.lines import Line, Program
from shownrun.mixed import Mixed
from shownrun.places import Places
from shownrun.rows import Rows
from tests.values import numbers

# The names of the columns, as the document has them.
COLUMNS = """pc fp ap add mul set same jz call ret here stop a b c imm da dv xa xv ya yv t
    A1 V1 A2 V2 A3 V3 g1 g2 g3 s1 s2 s3 R""".split()
FIELDS = "pc add mul set same jz call ret here stop a b c imm".split()

# The equations as the document has them, each with its number and its kind; NAME' is the word of the next row.
TABLE = """
1 all (1 - stop) * (da - fp - a - call * (ap - fp - a))
2 all (1 - stop) * (xa - fp - b - call * (ap + 1 - fp - b))
3 all (1 - stop) * (ya - fp - c - call * (ap + 2 - fp - c) - same * (xv + imm - fp - c))
4 all add * (dv - xv - yv)
5 all mul * (dv - xv * yv)
6 all set * (dv - imm)
7 all same * (dv - yv)
8 all here * (dv - fp - imm)
9 all t - 1 + xv * yv
10 all jz * xv * t
11 all call * (dv - fp)
12 all call * (xv - pc - 1)
13 all call * (yv - fp - a)
14 step pc' - pc - 1 + stop - jz * t * (imm - pc - 1) - call * (imm - pc - 1) - ret * (xv - pc - 1)
15 step fp' - fp - call * (ap + 3 - fp) - ret * (dv - fp)
16 step ap' - ap - call * (3 + c)
17 first pc
18 first fp - 3
19 first ap - 3 - frame
20 last stop - 1
21 all (A2 - A1) * (A2 - A1 - 1)
22 all (V2 - V1) * (A2 - A1 - 1)
23 all (A3 - A2) * (A3 - A2 - 1)
24 all (V3 - V2) * (A3 - A2 - 1)
25 step (A1' - A3) * (A1' - A3 - 1)
26 step (V1' - V3) * (A1' - A3 - 1)
27 first g1 - F(da, dv)
28 all g2 - g1 * F(xa, xv)
29 all g3 - g2 * F(ya, yv)
30 step g1' - g3 * F(da', dv')
31 first s1 - F(A1, V1)
32 all s2 - s1 * F(A2, V2)
33 all s3 - s2 * F(A3, V3)
34 step s1' - s3 * F(A1', V1')
35 first R - (w - mix)
36 step R' - R * (w - mix')
37 last g3 - s3
38 last R - closing
"""


def read_table():
    """The list of the pairs (kind, the equation as Python's code)."""
    made = []
    for line in TABLE.strip().split("\n"):
        number, kind, text = line.split(" ", 2)
        assert int(number) == len(made) + 1
        made.append((kind, compile(text.replace("'", "_next"), "equation " + number, "eval")))
    return made


EQUATIONS = read_table()


def mix_of(row, coins):
    named = dict(zip(COLUMNS, row))
    return named["pc"] + sum(coin * named[name] for coin, name in zip(coins[2:15], FIELDS[1:]))


def told_equation(number, here, behind, coins, p, frame, closing):
    """The worth of an equation by the table, for the 16 early coins."""
    names = dict(zip(COLUMNS, here))
    names.update({name + "_next": worth for name, worth in zip(COLUMNS, behind)})
    names.update({"F": lambda u, v: coins[1] - u - coins[0] * v, "w": coins[15], "frame": frame,
                  "closing": closing, "mix": mix_of(here, coins), "mix_next": mix_of(behind, coins)})
    return eval(EQUATIONS[number - 1][1], {"__builtins__": {}}, names) % p


def rows_of_kind(kind, count):
    return {"all": range(count), "step": range(count - 1), "first": [0], "last": [count - 1]}[kind]


def told_failing(columns, coins, p, frame, closing, most=38):
    """The pairs (number, row) of the equations that do not hold, by the table."""
    rows = list(zip(*columns))
    if most < 38:
        rows = [tuple(row) + (0,) * 7 for row in rows]
    made = []
    for number in range(1, most + 1):
        for at in rows_of_kind(EQUATIONS[number - 1][0], len(rows)):
            if told_equation(number, rows[at], rows[(at + 1) % len(rows)], coins, p, frame, closing) != 0:
                made.append((number, at))
    return made


def program_of(listing, frame):
    """A Program of lines as the document writes them."""
    lines = []
    for text in listing:
        op, *rest = text.split()
        lines.append(Line(op, *[int(word) for word in rest]))
    return Program(lines, frame)


SMALL = program_of(["set 0 0 0 3", "mul 1 0 0 0", "set 1 1 1 9", "stop 0 0 0 0"], 2)
SMALL_WRONG = program_of(["set 0 0 0 3", "mul 1 0 0 0", "set 1 1 1 10", "stop 0 0 0 0"], 2)
SQUARE = program_of(["set 0 0 0 0", "ask 1 1 1 0", "add 2 1 0 0", "call 2 0 2 8", "set 4 4 4 1", "add 5 3 4 0",
                     "set 5 5 5 10", "stop 0 0 0 0", "same 0 -1 0 0", "mul 1 0 0 0", "same 1 -1 0 1",
                     "ret -3 -2 -1 0"], 6)
CHOICE = program_of(["set 0 0 0 0", "ask 1 1 1 0", "jz 1 1 2 6", "set 5 5 5 5", "add 3 5 0 0", "jz 0 0 4 9",
                     "set 6 6 6 1", "add 7 1 6 0", "add 3 7 0 0", "stop 0 0 0 0"], 8)
CELLS = program_of(["set 2 2 2 1", "set 3 3 3 1", "add 2 4 3 0", "mul 5 2 4 0", "set 5 5 5 0", "set 6 6 6 7",
                    "here 7 7 7 0", "add 8 7 2 0", "same 6 8 0 0", "stop 0 0 0 0"], 9)


class Run:
    """A run worked out as the document says it, with the cells in a dict."""

    def __init__(self, program, secrets, p):
        self.program, self.p, self.secrets = program, p, list(secrets)
        self.cells, self.registers, self.touches = {}, [], []
        self.pc, self.fp, self.ap = 0, 3, 3 + program.frame
        while self.program.lines[self.pc].op != "stop":
            self.registers.append((self.pc, self.fp, self.ap))
            self.step(self.program.lines[self.pc])
        self.end = (self.pc, self.fp, self.ap)

    def give(self, address, worth):
        self.cells.setdefault(address % self.p, worth % self.p)

    def take(self, address):
        if address % self.p not in self.cells:
            self.give(address, self.secrets.pop(0))
        return self.cells[address % self.p]

    def step(self, line):
        p, fp, ap = self.p, self.fp, self.ap
        d, x, y = (fp + line.a) % p, (fp + line.b) % p, (fp + line.c) % p
        if line.op == "call":
            d, x, y = ap % p, (ap + 1) % p, (ap + 2) % p
            self.give(d, fp)
            self.give(x, self.pc + 1)
            self.give(y, fp + line.a)
        elif line.op == "same":
            y = (self.take(x) + line.imm) % p
            if d in self.cells:
                self.give(y, self.cells[d])
            else:
                self.give(d, self.take(y))
        elif line.op == "jz":
            worth = self.take(x)
            self.give(y, pow(worth, p - 2, p))
            self.take(d)
        elif line.op in ("set", "here"):
            self.give(d, line.imm + (fp if line.op == "here" else 0))
            self.take(x), self.take(y)
        elif line.op in ("ret", "ask"):
            self.take(x), self.take(y), self.take(d)
        else:
            self.sum_or_product(line.op, d, x, y)
        self.touches.append(tuple((at, self.cells[at]) for at in (d, x, y)))
        self.follow(line, *[self.cells[at] for at in (d, x, y)])

    def sum_or_product(self, op, d, x, y):
        known = [at in self.cells for at in (d, x, y)]
        if op == "add" and known[0] and known[1] and not known[2]:
            self.give(y, self.cells[d] - self.cells[x])
        elif op == "add" and known[0] and known[2] and not known[1]:
            self.give(x, self.cells[d] - self.cells[y])
        else:
            one, other = self.take(x), self.take(y)
            self.give(d, one + other if op == "add" else one * other)

    def follow(self, line, d, x, y):
        p = self.p
        after = self.pc + 1
        if line.op == "call":
            self.fp, self.ap, after = (self.ap + 3) % p, (self.ap + 3 + line.c) % p, line.imm
        elif line.op == "ret":
            self.fp, after = d, x
        elif line.op == "jz" and x == 0:
            after = line.imm
        self.pc = after


def rows_of_run(program, secrets, p, count):
    """The Rows of a filled run of so many rows."""
    run = Run(program, secrets, p)
    used = sorted({address for touch in run.touches for address, _ in touch})
    least = used[0] if used else 3
    padding = [(at, 0) for at in range(least, (used or [3])[-1] + 1) if at not in used]
    missing = count - len(run.touches)
    assert missing >= 1 and len(padding) <= 3 * missing
    padding += [(least, run.cells.get(least, 0))] * (3 * missing - len(padding))
    registers = run.registers + [run.end] * missing
    touches = run.touches + [tuple(padding[3 * at:3 * at + 3]) for at in range(missing)]
    ordered = sorted(pair for touch in touches for pair in touch)
    rows = []
    for at, ((pc, fp, ap), (d, x, y)) in enumerate(zip(registers, touches)):
        line = program.lines[pc]
        flags = [int(line.op == name) for name in FIELDS[1:10]]
        rows.append((pc, fp, ap, *flags, line.a, line.b, line.c, line.imm, *d, *x, *y, 1 - x[1] * y[1],
                     *ordered[3 * at], *ordered[3 * at + 1], *ordered[3 * at + 2]))
    return Rows(list(zip(*rows)), p=p)


def counts_of(program, rows):
    """How many rows stand at each line, for the rows of a run."""
    return [rows.columns[0].count(at) for at in range(len(program))]


class Teller:
    """The honest teller of Rows; it keeps what it was asked."""

    def __init__(self, program, rows, counts=None):
        self.program, self.rows, self.p = program, rows, rows.p
        self.places = Places(rows.p, len(rows.columns[0]))
        self.counts = counts_of(program, rows) if counts is None else counts
        self.words = [self.places.stretched(column) for column in rows.columns]
        self.asked, self.folds = [], None

    def seven(self, heard):
        return [self.places.stretched(column) for column in later(self.rows, Draws(heard[:16], p=self.p))]

    def mixed(self, heard):
        return Mixed(self.program, self.counts, self.words + self.seven(heard), heard[:90], p=self.p,
                     rows=self.places.rows)

    def __call__(self, step, heard):
        self.asked.append((step, list(heard)))
        if step == 0:
            return self.words, self.counts
        if step == 1:
            return self.seven(heard)
        if step == 2:
            self.folds = [self.mixed(heard).word()]
        self.folds.append(fold(self.places.layer(step - 2), self.folds[-1], heard[88 + step]))
        return self.folds[-1][0] if step == self.places.layers + 2 else self.folds[-1]


def coins_of(rows, seed=None, p=257):
    """Coins for T rows: those of the document's example, or others by a seed."""
    count = 91 + rows.bit_length() - 1
    return [5 * n + 2 for n in range(count)] if seed is None else numbers(seed, count, 0, p - 1)


SMALL_ROWS = rows_of_run(SMALL, [], 257, 4)
SAMPLES = [(SMALL, SMALL_ROWS), (SMALL, rows_of_run(SMALL, [], 193, 4)),
           (CHOICE, rows_of_run(CHOICE, [0], 257, 8)), (CHOICE, rows_of_run(CHOICE, [5], 769, 8)),
           (CELLS, rows_of_run(CELLS, [4], 7681, 16)), (SQUARE, rows_of_run(SQUARE, [3], 769, 16)),
           (SQUARE, rows_of_run(SQUARE, [998244350], 998244353, 16))]


def columns_of(rows, coins):
    """The 36 columns of Rows, for the early coins."""
    return list(rows.columns) + list(later(rows, Draws(coins[:16], p=rows.p)))
