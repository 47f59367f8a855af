"""The machine: its registers, its cells that are written once, and the doing of lines."""

from shownrun.errors import Broken, NotWaiting
from shownrun.primes import inverse
from shownrun.shapes import worths_of

_D = 0
_X = 1
_Y = 2


class Doing:
    """A line that is being done; what it writes is kept apart, so that a broken line changes nothing."""

    def __init__(self, line, registers, cells, secrets, told, *, p):
        self.line = line
        self._pc, self._fp, self._ap = registers
        self.p = p
        self.gained = {}
        self.taken = []
        self._cells = cells
        self._secrets = secrets
        self._told = told
        self.addresses = self._begun_addresses()

    def _begun_addresses(self):
        """The addresses of d, x and y; that of y of a same line hangs on the worth of x."""
        line = self.line
        if line.op == "call":
            return worths_of([self._ap, self._ap + 1, self._ap + 2], self.p)
        return worths_of([self._fp + line.a, self._fp + line.b, self._fp + line.c], self.p)

    def cell_worth(self, which):
        """The worth of d, x or y, None if it has none."""
        address = self.addresses[which]
        return self.gained.get(address, self._cells.get(address))

    def cell_worths(self):
        """The worths of d, x and y."""
        return self.cell_worth(_D), self.cell_worth(_X), self.cell_worth(_Y)

    def give(self, which, worth):
        """Gives d, x or y a worth if it has none."""
        if self.cell_worth(which) is None:
            self.gained[self.addresses[which]] = worth % self.p

    def take(self, which):
        """Gives d, x or y the next secret if it has no worth: the one told for it, if there are such."""
        if self.cell_worth(which) is not None:
            return
        if self._told is None and len(self.taken) == len(self._secrets):
            raise Broken(self._pc, "secrets")
        secret = self._secrets[len(self.taken)] if self._told is None else self._told[which]
        self.give(which, secret)
        self.taken.append(secret % self.p)

    def fill(self):
        """Gives the three cells their worths."""
        op = self.line.op
        if op == "add":
            self._fill_sum()
        elif op == "same":
            self._fill_same()
        elif op == "jz":
            self._fill_choice()
        elif op == "call":
            self.give(_D, self._fp)
            self.give(_X, self._pc + 1)
            self.give(_Y, self._fp + self.line.a)
        else:
            if op in ("set", "here"):
                self.give(_D, self._set_worth())
            self.take(_X)
            self.take(_Y)
            if op == "mul":
                self.give(_D, self.cell_worth(_X) * self.cell_worth(_Y))
            self.take(_D)

    def _set_worth(self):
        return self.line.imm + (self._fp if self.line.op == "here" else 0)

    def _fill_sum(self):
        d, x, y = self.cell_worths()
        if d is not None and x is not None and y is None:
            self.give(_Y, d - x)
        elif d is not None and y is not None and x is None:
            self.give(_X, d - y)
        else:
            self.take(_X)
            self.take(_Y)
            self.give(_D, self.cell_worth(_X) + self.cell_worth(_Y))

    def _fill_same(self):
        self.take(_X)
        self.addresses = self.addresses[:_Y] + ((self.cell_worth(_X) + self.line.imm) % self.p,)
        if self.cell_worth(_D) is not None:
            self.give(_Y, self.cell_worth(_D))
        self.take(_Y)
        self.give(_D, self.cell_worth(_Y))

    def _fill_choice(self):
        self.take(_X)
        x = self.cell_worth(_X)
        if x != 0:
            self.give(_Y, inverse(x, self.p))
        else:
            # Nothing hangs on y then: rows may tell any worth for it, which is no secret.
            self.give(_Y, 0 if self._told is None else self._told[_Y])
        self.take(_D)

    def holds(self):
        """Whether what the line claims holds for the three worths."""
        op, p = self.line.op, self.p
        d, x, y = self.cell_worths()
        if op == "add":
            return d == (x + y) % p
        if op == "mul":
            return d == x * y % p
        if op in ("set", "here"):
            return d == self._set_worth() % p
        if op == "same":
            return d == y
        if op == "jz":
            return x == 0 or x * y % p == 1
        if op == "call":
            return (d, x, y) == worths_of([self._fp, self._pc + 1, self._fp + self.line.a], p)
        return True

    def next_registers(self):
        """The registers behind the line."""
        op, line = self.line.op, self.line
        d, x, _ = self.cell_worths()
        pc, fp, ap = self._pc + 1, self._fp, self._ap
        if op == "call":
            pc, fp, ap = line.imm, self._ap + 3, self._ap + 3 + line.c
        elif op == "ret":
            pc, fp = x, d
        elif op == "jz" and x == 0:
            pc = line.imm
        return worths_of([pc, fp, ap], self.p)


class Machine:
    """A machine that does the lines of a program, with secrets."""

    def __init__(self, program, secrets=(), *, p):
        self.program = program
        self.p = p
        self._secrets = worths_of(secrets, p)
        self._registers = worths_of([0, 3, 3 + program.frame], p)
        self._cells = {}
        self._used = 0
        self._steps = 0

    @property
    def pc(self):
        return self._registers[0]

    @property
    def fp(self):
        return self._registers[1]

    @property
    def ap(self):
        return self._registers[2]

    @property
    def done(self):
        return self.pc < len(self.program) and self.program.lines[self.pc].op == "stop"

    @property
    def used(self):
        return self._used

    @property
    def steps(self):
        return self._steps

    def step(self):
        """Does a line; tells the triple of the pairs (address, worth) of d, x and y."""
        return self._do_line(None)[0]

    def told_step(self, worths):
        """Does a line with the three worths told for its cells in the place of secrets.

        Tells the triple of pairs, and the list of the worths that stand for secrets.
        """
        return self._do_line(worths)

    def _do_line(self, told):
        if self.done:
            raise NotWaiting("step")
        if self.pc >= len(self.program):
            raise Broken(self.pc, "line")
        doing = Doing(self.program.lines[self.pc], self._registers, self._cells, self._secrets[self._used:], told,
                      p=self.p)
        doing.fill()
        if not doing.holds():
            raise Broken(self.pc, "cell")
        self._cells.update(doing.gained)
        self._registers = doing.next_registers()
        self._used = self._used + len(doing.taken)
        self._steps = self._steps + 1
        return tuple(zip(doing.addresses, doing.cell_worths())), doing.taken

    def cell(self, address):
        """The worth of a cell, None if it has none."""
        return self._cells.get(address % self.p)

    def twin(self):
        """An independent machine in the same state."""
        made = Machine(self.program, self._secrets, p=self.p)
        made._cells = {address: self._cells[address] for address in self._cells}
        made._registers = self._registers
        made._used = self._used
        made._steps = self._steps
        return made

    def __repr__(self):
        return f"Machine({self._steps} steps)"
