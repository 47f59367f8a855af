"""Compiling texts to programs of the machine."""

from shownrun.bodies import Called, Group, Name, Number, Picked, Product, all_deeds, inner_worths, joint_values
from shownrun.errors import BadShape, TooMany
from shownrun.lines import Line, Program
from shownrun.shapes import list_length

_MOST_LINES = 120


class Spot:
    """Where the code finds a name: the cell of a value, the first cell of a row, or the cell with a row's address."""

    def __init__(self, at, many=0, handed=False):
        self.at = at
        self.many = many
        self.handed = handed


class Sheet:
    """The lines of a body so far, and how many cells it has.

    The lines are tuples of an op and four numbers. Numbers of lines are counted from the first one of the body, and a
    call has the name of its function in the place of such a number.
    """

    def __init__(self):
        self.lines = []
        self.frame = 0

    def new(self, count=1):
        """Makes so many cells; tells the first of them."""
        self.frame += count
        return self.frame - count

    def emit(self, op, a, b, c, imm=0):
        """Adds a line; tells its number."""
        self.lines.append((op, a, b, c, imm))
        return len(self.lines) - 1

    def land(self, jump):
        """Makes a jump lead to the next line."""
        op, a, b, c, _ = self.lines[jump]
        self.lines[jump] = (op, a, b, c, len(self.lines))

    def numbered(self, imm):
        """A new cell with a number."""
        cell = self.new()
        self.emit("set", cell, cell, cell, imm)
        return cell

    def joined(self, op, one, other):
        """A new cell with the sum or the product of two cells."""
        cell = self.new()
        self.emit(op, cell, one, other)
        return cell

    def reduced(self, one, other):
        """A new cell with one cell less the other."""
        cell = self.new()
        self.emit("add", one, cell, other)
        return cell


def _calls_with_argument(worth):
    """Whether there is a call with an argument anywhere in an expression."""
    if isinstance(worth, Called) and len(worth.arguments) > 0:
        return True
    return any([_calls_with_argument(inner) for inner in inner_worths(worth)])


def _needs_zero(body):
    """Whether the code of a body needs a cell with the worth 0."""
    for deed in all_deeds(body.deeds):
        if deed.verb in ("claim", "if") or any([_calls_with_argument(worth) for worth in deed.worths]):
            return True
    return False


class Coder:
    """The code of one body, with the outputs that its tell lines get."""

    def __init__(self, body, outputs):
        self.sheet = Sheet()
        self._body = body
        self._outputs = outputs
        self._told = 0
        self._names = {}
        self._zero = None

    def code_body(self):
        """Makes the code of the whole body."""
        for at, (name, many) in enumerate(self._body.parameters):
            self._names[name] = Spot(self.sheet.new(), many, many > 0)
            self.sheet.emit("same", at, -1, 0, at)
        if _needs_zero(self._body):
            self._zero = self.sheet.numbered(0)
        self._code_deeds(self._body.deeds)
        if self._body.name == "":
            self.sheet.emit("stop", 0, 0, 0)

    def _code_deeds(self, deeds):
        for deed in deeds:
            if deed.verb == "ask":
                self._code_asked(deed.names)
            elif deed.verb == "row":
                self._names[deed.names[0]] = Spot(self.sheet.new(deed.many), deed.many)
            elif deed.verb == "store":
                self._code_store(deed)
            elif deed.verb == "if":
                self._code_choice(deed)
            else:
                self._code_worths(deed)

    def _code_asked(self, names):
        for name in names:
            cell = self.sheet.new()
            self.sheet.emit("ask", cell, cell, cell)
            self._names[name] = Spot(cell)

    def _code_worths(self, deed):
        """The code of a line that gives a name, claims, tells an output or gives a result."""
        cells = [self._code(worth) for worth in deed.worths]
        if deed.verb == "value":
            self._names[deed.names[0]] = Spot(cells[0])
        elif deed.verb == "claim":
            self._copy(cells[0], cells[1])
        elif deed.verb == "tell":
            self.sheet.emit("set", cells[0], cells[0], cells[0], self._outputs[self._told])
            self._told += 1
        else:
            self.sheet.emit("same", cells[0], -1, 0, len(self._body.parameters))
            self.sheet.emit("ret", -3, -2, -1)

    def _copy(self, cell, source):
        """The line that makes two cells equal."""
        self.sheet.emit("add", cell, source, self._zero)

    def _code_store(self, deed):
        row = self._names[deed.names[0]]
        index = self._code_index(deed.worths[0], row)
        worth = self._code(deed.worths[1])
        self.sheet.emit("same", worth, self._code_address(row, index), 0)

    def _code_choice(self, choice):
        sheet = self.sheet
        test = self._code(choice.worths[0])
        inverse = sheet.new()
        joint = {name: sheet.new() for name in joint_values(choice)}
        end = sheet.new()
        jump = sheet.emit("jz", test, test, inverse)
        self._code_part(choice.yes, joint)
        skip = sheet.emit("jz", self._zero, self._zero, end)
        sheet.land(jump)
        self._code_part(choice.other, joint)
        sheet.land(skip)
        for name in joint:
            self._names[name] = Spot(joint[name])

    def _code_part(self, deeds, joint):
        """The code of a part of a choice, which copies the names that are known behind it to their cells there."""
        ahead = dict(self._names)
        self._code_deeds(deeds)
        for name in joint:
            self._copy(joint[name], self._names[name].at)
        self._names = ahead

    def _code(self, worth):
        """The code of an expression; tells the cell of its worth."""
        while isinstance(worth, Group):
            worth = worth.inner
        if isinstance(worth, Number):
            return self.sheet.numbered(worth.number)
        if isinstance(worth, Name):
            return self._names[worth.name].at
        if isinstance(worth, Picked):
            return self._code_picked(worth)
        if isinstance(worth, Called):
            return self._code_call(worth)
        if isinstance(worth, Product):
            return self._code_product(worth)
        return self._code_sum(worth)

    def _code_product(self, product):
        cell = self._code(product.factors[0])
        for factor in product.factors[1:]:
            cell = self.sheet.joined("mul", cell, self._code(factor))
        return cell

    def _code_sum(self, total):
        cell = self._code(total.parts[0][1])
        for sign, part in total.parts[1:]:
            other = self._code(part)
            cell = self.sheet.joined("add", cell, other) if sign == "+" else self.sheet.reduced(cell, other)
        return cell

    def _code_index(self, worth, row):
        """The code of an index and its check: the product of all its differences from the right ones is 0."""
        sheet = self.sheet
        index = self._code(worth)
        product = index
        for right in range(1, row.many):
            product = sheet.joined("mul", product, sheet.reduced(index, sheet.numbered(right)))
        sheet.emit("set", product, product, product, 0)
        return index

    def _code_address(self, row, index):
        """The code of the address of a cell of a row."""
        first = row.at
        if not row.handed:
            first = self.sheet.new()
            self.sheet.emit("here", first, first, first, row.at)
        return self.sheet.joined("add", first, index)

    def _code_picked(self, picked):
        row = self._names[picked.name]
        address = self._code_address(row, self._code_index(picked.at, row))
        cell = self.sheet.new()
        self.sheet.emit("same", cell, address, 0)
        return cell

    def _code_call(self, call):
        sheet = self.sheet
        sources = [self._code_argument(argument) for argument in call.arguments]
        first = sheet.new(len(sources) + 1)
        for at, source in enumerate(sources):
            if source.many > 0 and not source.handed:
                sheet.emit("here", first + at, first + at, first + at, source.at)
            else:
                self._copy(first + at, source.at)
        sheet.emit("call", first, 0, 0, call.name)
        return first + len(sources)

    def _code_argument(self, argument):
        """The Spot of an argument; a lone name is a row or a value, neither with code."""
        if isinstance(argument, Name):
            return self._names[argument.name]
        return Spot(self._code(argument))


def _placed(line, start, starts, frames):
    """A line of a body whose first line has the number start, with all numbers of lines told."""
    op, a, b, c, imm = line
    if op == "call":
        return op, a, b, frames[imm], starts[imm]
    return op, a, b, c, (start + imm if op == "jz" else imm)


def _linked(bodies, coders):
    """The lines of all bodies, one behind another."""
    starts, frames, count = {}, {}, 0
    for body, coder in zip(bodies, coders):
        starts[body.name] = count
        frames[body.name] = coder.sheet.frame
        count += len(coder.sheet.lines)
    return [_placed(line, starts[body.name], starts, frames)
            for body, coder in zip(bodies, coders) for line in coder.sheet.lines]


def compiled(notes, outputs=()):
    """The Program of a text that tells these outputs."""
    count = list_length(outputs)
    if count != notes.tells:
        raise BadShape("outputs", count)
    coders = [Coder(body, tuple(outputs)) for body in notes.bodies]
    for coder in coders:
        coder.code_body()
    lines = _linked(notes.bodies, coders)
    if len(lines) > _MOST_LINES:
        raise TooMany("lines", _MOST_LINES)
    return Program([Line(op, a, b, c, imm) for op, a, b, c, imm in lines], coders[0].sheet.frame)
