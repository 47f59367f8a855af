"""The lines and programs of the machine."""

from shownrun.bags import Bag
from shownrun.errors import BadLine, BadShape, TooMany
from shownrun.primes import is_number, power
from shownrun.shapes import list_length, worths_of

OPS = ("add", "mul", "set", "same", "jz", "call", "ret", "here", "stop", "ask")
_FLAGS = ("add", "mul", "set", "same", "jz", "call", "ret", "here", "stop")
_MOST_LINES = 120
_MOST_NUMBER = 9999999999
_MOST_FRAME = 999999


class Line:
    """An op and four numbers."""

    def __init__(self, op, a=0, b=0, c=0, imm=0):
        if op not in OPS:
            raise BadLine("op")
        for field, number in (("a", a), ("b", b), ("c", c), ("imm", imm)):
            if not is_number(number, -_MOST_NUMBER, _MOST_NUMBER):
                raise BadLine(field)
        self.op = op
        self.a = a
        self.b = b
        self.c = c
        self.imm = imm

    def fields(self, at, *, p):
        """The fourteen fields of this line as the line with the number at."""
        flags = [1 if self.op == flag else 0 for flag in _FLAGS]
        return worths_of([at] + flags + [self.a, self.b, self.c, self.imm], p)

    def __eq__(self, other):
        return (isinstance(other, Line) and self.op == other.op and self.a == other.a and self.b == other.b
                and self.c == other.c and self.imm == other.imm)

    def __str__(self):
        return f"{self.op} {self.a} {self.b} {self.c} {self.imm}"


class Program:
    """A list of lines, and the frame of its main body."""

    def __init__(self, lines, frame=0):
        count = list_length(lines)
        if count is None or count == 0:
            raise BadShape("lines", count)
        if count > _MOST_LINES:
            raise TooMany("lines", _MOST_LINES)
        if not all([isinstance(line, Line) for line in lines]):
            raise BadLine("line")
        if not is_number(frame, 0, _MOST_FRAME):
            raise BadShape("frame", frame)
        self.lines = tuple(lines)
        self.frame = frame

    def listing(self):
        """The list of the lines as strings."""
        return [str(line) for line in self.lines]

    def apart(self, p, rows):
        """Whether the cells of so many rows of a run stay below the prime."""
        steps = [line.c for line in self.lines if line.op == "call"]
        return 3 + self.frame + rows * (3 + max([0] + steps)) <= p

    def fields(self, counts, *, p):
        """The Bag of the fields of the lines, each as often as its count."""
        items = [line.fields(at, p=p) for at, line in enumerate(self.lines) for _ in range(counts[at])]
        return Bag(*items)

    def closing(self, counts, draws):
        """The product over the lines of (w - the mix of the fields) to the power of the count."""
        total = 1
        for at, line in enumerate(self.lines):
            factor = draws.w - draws.mix(line.fields(at, p=draws.p))
            total = total * power(factor, counts[at], draws.p) % draws.p
        return total

    def __len__(self):
        return len(self.lines)

    def __eq__(self, other):
        return isinstance(other, Program) and self.frame == other.frame and self.lines == other.lines

    def __repr__(self):
        return f"Program({len(self.lines)} lines, frame {self.frame})"
