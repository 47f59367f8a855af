"""A second reading of the language for the tests, and texts that look like chance.

The expressions of the language are expressions of Python, too, so Python reads them here. Texts that are read here
have no names that are words of Python, and one sign of a line behind another as the written form has them.
"""

import ast
import random


class Wrong(Exception):
    """A walk that is broken, or does too much."""


class Told:
    """A text as a list of bodies: a name, parameters (name, size or 0), and lines as tuples."""

    def __init__(self, text):
        self.rows = [(at, line.strip()) for at, line in enumerate(text.split("\n")) if line.strip()]
        self.bodies = []
        while self.rows:
            words = self.rows.pop(0)[1].split()
            parameters, left = [], words[2:]
            while left:
                if left[0] == "row":
                    parameters.append((left[1], int(left[2])))
                    left = left[3:]
                else:
                    parameters.append((left.pop(0), 0))
            self.bodies.append((words[1] if words[0] == "fun" else "", parameters, self.read_lines()))

    def read_lines(self):
        """The lines up to an end or else, which is taken."""
        made = []
        while True:
            at, line = self.rows.pop(0)
            word, _, rest = line.partition(" ")
            if word in ("end", "else"):
                return made
            if word == "ask":
                made.append(("ask", at, rest.split()))
            elif word == "row":
                made.append(("row", at, rest.split()[0], int(rest.split()[1])))
            elif word == "claim":
                tree = self.worth(rest)
                made.append(("claim", at, tree.left, tree.comparators[0]))
            elif word in ("tell", "give"):
                made.append((word, at, self.worth(rest)))
            elif word == "if":
                made.append(("if", at, self.worth(rest), self.read_lines(), self.read_lines()))
            else:
                deed = ast.parse(line).body[0]
                target = deed.targets[0]
                if isinstance(target, ast.Name):
                    made.append(("value", at, target.id, deed.value))
                else:
                    made.append(("store", at, target.value.id, target.slice, deed.value))

    def worth(self, text):
        return ast.parse(text.strip(), mode="eval").body


class Walk:
    """A walk of a text; what it comes to is a tuple that begins with a word."""

    def __init__(self, text, secrets, p):
        self.functions = {name: (parameters, lines) for name, parameters, lines in Told(text).bodies}
        self.secrets, self.p = list(secrets), p
        self.outputs, self.used, self.deeds, self.calls = [], 0, 0, 0

    def result(self):
        try:
            self.lines(self.functions[""][1], {})
        except Wrong as wrong:
            return wrong.args
        return "walked", tuple(self.outputs), self.used

    def secret(self, at):
        if not self.secrets:
            raise Wrong("broken", at, "secrets")
        self.used += 1
        return self.secrets.pop(0) % self.p

    def lines(self, lines, names):
        for word, at, *rest in lines:
            self.deeds += 1
            if self.deeds == 401:
                raise Wrong("many", "deeds", 400)
            if word == "ask":
                for name in rest[0]:
                    names[name] = self.secret(at)
            elif word == "row":
                names[rest[0]] = {k: None for k in range(rest[1])}
            elif word == "store":
                row, index = names[rest[0]], self.index(names[rest[0]], rest[1], names, at)
                worth = self.worth(rest[2], names, at)
                if row[index] is None:
                    row[index] = worth
                if row[index] != worth:
                    raise Wrong("broken", at, "cell")
            elif word == "value":
                names[rest[0]] = self.worth(rest[1], names, at)
            elif word == "claim":
                one = self.worth(rest[0], names, at)
                if one != self.worth(rest[1], names, at):
                    raise Wrong("broken", at, "claim")
            elif word == "if":
                self.lines(rest[1] if self.worth(rest[0], names, at) else rest[2], names)
            elif word == "tell":
                self.outputs.append(self.worth(rest[0], names, at))
            else:
                return self.worth(rest[0], names, at)

    def index(self, row, tree, names, at):
        index = self.worth(tree, names, at)
        if index not in row:
            raise Wrong("broken", at, "index")
        return index

    def worth(self, tree, names, at):
        if isinstance(tree, ast.Constant):
            return tree.value % self.p
        if isinstance(tree, ast.Name):
            return names[tree.id]
        if isinstance(tree, ast.Subscript):
            row = names[tree.value.id]
            index = self.index(row, tree.slice, names, at)
            if row[index] is None:
                row[index] = self.secret(at)
            return row[index]
        if isinstance(tree, ast.Call):
            parameters, lines = self.functions[tree.func.id]
            passed = {}
            for (name, size), argument in zip(parameters, tree.args):
                passed[name] = names[argument.id] if size else self.worth(argument, names, at)
            self.calls += 1
            if self.calls == 13:
                raise Wrong("many", "calls", 12)
            given = self.lines(lines, passed)
            self.calls -= 1
            return given
        one, other = self.worth(tree.left, names, at), self.worth(tree.right, names, at)
        if isinstance(tree.op, ast.Mult):
            return one * other % self.p
        return (one + other if isinstance(tree.op, ast.Add) else one - other) % self.p


class Code:
    """The code of a text by the words of the document, as strings."""

    def __init__(self, text, outputs):
        told = Told(text)
        self.lines, self.outputs, self.starts, self.frames = [], list(outputs), {}, {}
        for name, parameters, lines in told.bodies:
            self.starts[name], self.cells, self.many = len(self.lines), 0, len(parameters)
            names = {}
            for at, (parameter, size) in enumerate(parameters):
                names[parameter] = ("handed", self.new(), size) if size else ("value", at)
                if not size:
                    self.new()
                self.emit("same", at, -1, 0, at)
            self.zero = None
            if any(isinstance(node, tuple) for node in self.reasons(lines)):
                self.zero = self.new()
                self.emit("set", self.zero, self.zero, self.zero, 0)
            self.body(lines, names)
            if name == "":
                self.emit("stop", 0, 0, 0, 0)
            self.frames[name] = self.cells

    def reasons(self, lines):
        """Tuples for whatever needs a zero, other values beside them."""
        for line in lines:
            if line[0] in ("claim", "if"):
                yield line
            for item in line[2:]:
                if isinstance(item, ast.AST):
                    yield from ((node,) for node in ast.walk(item) if isinstance(node, ast.Call) and node.args)

    def listing(self):
        made = []
        for op, a, b, c, imm in self.lines:
            if op == "call":
                c, imm = self.frames[imm], self.starts[imm]
            made.append("{} {} {} {} {}".format(op, a, b, c, imm))
        return made

    def new(self, count=1):
        self.cells += count
        return self.cells - count

    def emit(self, *line):
        self.lines.append(line)

    def known(self, lines):
        """The names that lines make known as values."""
        made = set()
        for line in lines:
            if line[0] == "ask":
                made.update(line[2])
            elif line[0] == "value":
                made.add(line[2])
            elif line[0] == "if":
                made.update(self.known(line[3]) & self.known(line[4]))
        return made

    def body(self, lines, names):
        for word, _, *rest in lines:
            if word == "ask":
                for name in rest[0]:
                    t = self.new()
                    self.emit("ask", t, t, t, 0)
                    names[name] = ("value", t)
            elif word == "row":
                names[rest[0]] = ("row", self.new(rest[1]), rest[1])
            elif word == "store":
                i = self.index(rest[1], names, rest[0])
                u = self.worth(rest[2], names)
                self.emit("same", u, self.address(names[rest[0]], i), 0, 0)
            elif word == "value":
                names[rest[0]] = ("value", self.worth(rest[1], names))
            elif word == "claim":
                u = self.worth(rest[0], names)
                v = self.worth(rest[1], names)
                self.emit("add", u, v, self.zero, 0)
            elif word == "tell":
                u = self.worth(rest[0], names)
                self.emit("set", u, u, u, self.outputs.pop(0))
            elif word == "give":
                u = self.worth(rest[0], names)
                self.emit("same", u, -1, 0, self.many)
                self.emit("ret", -3, -2, -1, 0)
            else:
                self.choice(rest, names)

    def choice(self, rest, names):
        u = self.worth(rest[0], names)
        t = self.new()
        cells = {name: self.new() for name in sorted(self.known(rest[1]) & self.known(rest[2]))}
        e = self.new()
        jumps = []
        for part, line in ((rest[1], ["jz", u, u, t]), (rest[2], ["jz", self.zero, self.zero, e])):
            jumps.append((len(self.lines), line))
            self.lines.append(None)
            inner = dict(names)
            if len(jumps) == 2:
                # The second jump stands at the end of the first part, which is already written.
                at, line = jumps[0]
                self.lines[at] = (*line, len(self.lines))
            self.body(part, inner)
            for name, cell in cells.items():
                self.emit("add", cell, inner[name][1], self.zero, 0)
        at, line = jumps[1]
        self.lines[at] = (*line, len(self.lines))
        names.update({name: ("value", cell) for name, cell in cells.items()})

    def index(self, tree, names, row):
        i = q = self.worth(tree, names)
        for m in range(1, names[row][2]):
            n = self.new()
            self.emit("set", n, n, n, m)
            s = self.new()
            self.emit("add", i, s, n, 0)
            w = self.new()
            self.emit("mul", w, q, s, 0)
            q = w
        self.emit("set", q, q, q, 0)
        return i

    def address(self, row, i):
        t = row[1]
        if row[0] == "row":
            t = self.new()
            self.emit("here", t, t, t, row[1])
        s = self.new()
        self.emit("add", s, t, i, 0)
        return s

    def worth(self, tree, names):
        if isinstance(tree, ast.Constant):
            t = self.new()
            self.emit("set", t, t, t, tree.value)
            return t
        if isinstance(tree, ast.Name):
            return names[tree.id][1]
        if isinstance(tree, ast.Subscript):
            row = names[tree.value.id]
            s = self.address(row, self.index(tree.slice, names, tree.value.id))
            v = self.new()
            self.emit("same", v, s, 0, 0)
            return v
        if isinstance(tree, ast.Call):
            return self.call(tree, names)
        u = self.worth(tree.left, names)
        v = self.worth(tree.right, names)
        t = self.new()
        if isinstance(tree.op, ast.Sub):
            self.emit("add", u, t, v, 0)
        else:
            self.emit("mul" if isinstance(tree.op, ast.Mult) else "add", t, u, v, 0)
        return t

    def call(self, tree, names):
        sources = []
        for argument in tree.args:
            if isinstance(argument, ast.Name) and names[argument.id][0] != "value":
                sources.append(names[argument.id])
            else:
                sources.append(("value", self.worth(argument, names)))
        f = self.new(len(sources) + 1)
        for i, source in enumerate(sources):
            if source[0] == "row":
                self.emit("here", f + i, f + i, f + i, source[1])
            else:
                self.emit("add", f + i, source[1], self.zero, 0)
        self.emit("call", f, 0, None, tree.func.id)
        return f + len(sources)


class Chance:
    """Right texts that look like chance, the same for each seed."""

    NAMES = "a b c d e f g h xx yy zz abcdefgh".split()
    FUNCTIONS = "f g a longname".split()

    def __init__(self, seed):
        self.chance = random.Random(seed)
        self.functions = []
        for name in self.FUNCTIONS[:self.chance.choice((0, 1, 1, 2, 3, 4))]:
            names = self.chance.sample(self.NAMES, self.chance.choice((0, 1, 1, 2, 3)))
            self.functions.append((name, [(word, self.chance.choice((0, 0, 0, 2, 4))) for word in names]))

    def text(self):
        """A text of at most 80 lines."""
        lines = self.lines()
        while len(lines) > 80:
            lines = self.lines()
        return "\n".join(lines) + "\n"

    def lines(self):
        lines = ["main", *self.body([], self.chance.randint(1, 5), {}, True), "end"]
        for name, parameters in self.functions:
            told = ["row {} {}".format(word, size) if size else word for word, size in parameters]
            known = dict(parameters)
            body = self.body(list(known), self.chance.randint(0, 2), known, False)
            lines += [" ".join(["fun", name, *told]), *body, "give " + self.worth(known, 1), "end"]
        return lines

    def body(self, taken, count, known, main, deep=0):
        lines = []
        for _ in range(count):
            free = [word for word in self.NAMES if word not in taken]
            rows = [word for word, size in known.items() if size]
            kind = self.chance.choice(["ask", "value", "value", "row", "store", "claim", "if", "tell", "store"])
            if kind in ("ask", "value", "row") and free:
                name = self.chance.choice(free)
                if kind == "ask":
                    lines.append("ask " + name)
                elif kind == "value":
                    lines.append("{} = {}".format(name, self.worth(known, 2)))
                known[name] = 0
                if kind == "row":
                    known[name] = self.chance.choice((2, 2, 4))
                    lines.append("row {} {}".format(name, known[name]))
                taken.append(name)
            elif kind == "store" and rows:
                row = self.chance.choice(rows)
                lines.append("{}[{}] = {}".format(row, self.index(known, known[row]), self.worth(known, 2)))
            elif kind == "claim":
                one = self.worth(known, 1)
                lines.append("claim {} == {}".format(one, self.chance.choice((one, self.worth(known, 1)))))
            elif kind == "if" and deep < 2:
                lines += self.choice(taken, known, deep)
            elif kind == "tell" and main:
                lines.append("tell " + self.worth(known, 2))
        return lines

    def choice(self, taken, known, deep):
        lines = ["if " + self.worth(known, 1)]
        sides = []
        for _ in range(2):
            some, names = list(taken), dict(known)
            lines += self.body(some, self.chance.randint(0, 2), names, False, deep + 1)
            if self.chance.random() < 0.5:
                name = self.chance.choice([word for word in self.NAMES if word not in some] or ["unused"])
                if name not in some:
                    lines.append("{} = {}".format(name, self.worth(names, 1)))
                    names[name] = 0
                    some.append(name)
            sides.append((some, names))
            lines.append("else" if len(sides) == 1 else "end")
        for name, size in sides[0][1].items():
            if size == 0 and sides[1][1].get(name) == 0:
                known.setdefault(name, 0)
        taken += [word for some, _ in sides for word in some if word not in taken]
        return lines

    def index(self, known, size):
        if self.chance.random() < 0.8:
            return str(self.chance.randint(0, size - 1))
        return self.worth(known, 1)

    def worth(self, known, deep):
        kind = self.chance.random()
        values = [word for word, size in known.items() if size == 0]
        if deep == 0 or kind < 0.45:
            if values and self.chance.random() < 0.7:
                return self.chance.choice(values)
            return str(self.chance.choice((0, 1, 1, 2, 3, 999999999)))
        rows = [word for word, size in known.items() if size]
        if kind < 0.6 and rows:
            row = self.chance.choice(rows)
            return "{}[{}]".format(row, self.index(known, known[row]))
        if kind < 0.75 and self.functions:
            name, parameters = self.chance.choice(self.functions)
            told = []
            for _, size in parameters:
                fitting = [word for word in rows if known[word] == size]
                if size and not fitting:
                    return "7"
                told.append(self.chance.choice(fitting) if size else self.worth(known, deep - 1))
            return "{}({})".format(name, ", ".join(told))
        text = " {} ".format(self.chance.choice("+-*")).join(self.worth(known, deep - 1) for _ in range(2))
        return "(" + text + ")" if self.chance.random() < 0.3 else text
