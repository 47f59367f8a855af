"""The form of texts: reading their lines into bodies, or refusing them."""

from shownrun.bodies import Body, Called, Deed, Group, Name, Number, Picked, Product, Sum
from shownrun.errors import BadProgram
from shownrun.signs import is_name, is_numeral

_SIZES = ("2", "4", "8")
_MOST_DEEP = 6
_MOST_PARAMETERS = 8


class Reader:
    """Reads the signs of a line from left to right."""

    def __init__(self, signs, line):
        self.line = line
        self._signs = tuple(signs)
        self._at = 0
        self._deep = 0

    def refuse(self):
        """Tells that the line cannot stand there."""
        raise BadProgram(self.line, "form")

    def ahead(self):
        """The next sign, an empty string at the end."""
        return self._signs[self._at] if self._at < len(self._signs) else ""

    def skip(self, sign):
        """Reads just this sign."""
        if self.ahead() != sign:
            self.refuse()
        self._at += 1

    def finish(self):
        """Refuses further signs."""
        if self.ahead() != "":
            self.refuse()

    def read_name(self):
        """Reads a name."""
        sign = self.ahead()
        if not is_name(sign):
            self.refuse()
        self._at += 1
        return sign

    def read_size(self):
        """Reads the size of a row."""
        sign = self.ahead()
        if sign not in _SIZES:
            self.refuse()
        self._at += 1
        return int(sign)

    def _open(self, bracket):
        self.skip(bracket)
        self._deep += 1
        if self._deep > _MOST_DEEP:
            self.refuse()

    def _close(self, bracket):
        self.skip(bracket)
        self._deep -= 1

    def expression(self):
        """Reads an expression."""
        parts = [("+", self._term())]
        while self.ahead() in ("+", "-"):
            sign = self.ahead()
            self.skip(sign)
            parts.append((sign, self._term()))
        return parts[0][1] if len(parts) == 1 else Sum(parts)

    def _term(self):
        factors = [self._factor()]
        while self.ahead() == "*":
            self.skip("*")
            factors.append(self._factor())
        return factors[0] if len(factors) == 1 else Product(factors)

    def _factor(self):
        sign = self.ahead()
        if is_numeral(sign):
            self.skip(sign)
            return Number(int(sign))
        if sign == "(":
            return Group(self._bracketed("(", ")"))
        name = self.read_name()
        if self.ahead() == "[":
            return Picked(name, self.read_index())
        return Called(name, self._arguments()) if self.ahead() == "(" else Name(name)

    def _bracketed(self, left, right):
        self._open(left)
        inner = self.expression()
        self._close(right)
        return inner

    def read_index(self):
        """Reads an expression in square brackets."""
        return self._bracketed("[", "]")

    def _arguments(self):
        self._open("(")
        arguments = []
        if self.ahead() != ")":
            arguments.append(self.expression())
            while self.ahead() == ",":
                self.skip(",")
                arguments.append(self.expression())
        self._close(")")
        return arguments


def _read_asked(reader):
    names = [reader.read_name()]
    while reader.ahead() != "":
        names.append(reader.read_name())
    return Deed("ask", reader.line, names=names)


def _read_worded(reader, word):
    """Reads the rest of a line that begins with a word of the language."""
    if word == "ask":
        return _read_asked(reader)
    if word == "row":
        name = reader.read_name()
        return Deed("row", reader.line, names=[name], many=reader.read_size())
    if word == "claim":
        one = reader.expression()
        reader.skip("==")
        return Deed("claim", reader.line, worths=[one, reader.expression()])
    return Deed(word, reader.line, worths=[reader.expression()])


def _read_deed(reader):
    """Reads a line that is a deed."""
    word = reader.ahead()
    if word in ("ask", "row", "claim", "if", "tell", "give"):
        reader.skip(word)
        return _read_worded(reader, word)
    name = reader.read_name()
    if reader.ahead() == "[":
        at = reader.read_index()
        reader.skip("=")
        return Deed("store", reader.line, names=[name], worths=[at, reader.expression()])
    reader.skip("=")
    return Deed("value", reader.line, names=[name], worths=[reader.expression()])


def _read_parameters(reader):
    parameters = []
    while reader.ahead() != "":
        if reader.ahead() == "row":
            reader.skip("row")
            name = reader.read_name()
            parameters.append((name, reader.read_size()))
        else:
            parameters.append((reader.read_name(), 0))
    if len(parameters) > _MOST_PARAMETERS:
        reader.refuse()
    return parameters


class Block:
    """Lines that have no end yet: the role is main, fun, yes or else, a choice is that of the last two."""

    def __init__(self, role, deeds, choice=None):
        self.role = role
        self.deeds = deeds
        self.choice = choice

    def has_given(self):
        """Whether the last deed so far is a give line."""
        return len(self.deeds) > 0 and self.deeds[-1].verb == "give"


class Reading:
    """A text that is read line by line."""

    def __init__(self):
        self.bodies = []
        # The body that is read and the parts of choices within it, the innermost one last.
        self._blocks = []

    def complete(self):
        """Whether a text may end here."""
        return len(self.bodies) > 0 and len(self._blocks) == 0

    def read_line(self, signs, line):
        """Reads the next line that is not empty."""
        reader = Reader(signs, line)
        if not self._blocks:
            self._begin_body(reader)
        elif signs[0] == "else":
            self._begin_else(reader)
        elif signs[0] == "end":
            self._end_block(reader)
        else:
            self._do_deed(reader)
        reader.finish()

    def _begin_body(self, reader):
        role = "fun" if self.bodies else "main"
        reader.skip(role)
        if role == "main":
            body = Body("", [], reader.line)
        else:
            name = reader.read_name()
            body = Body(name, _read_parameters(reader), reader.line)
        self.bodies.append(body)
        self._blocks.append(Block(role, body.deeds))

    def _begin_else(self, reader):
        reader.skip("else")
        block = self._blocks.pop()
        if block.role != "yes":
            reader.refuse()
        self._blocks.append(Block("else", block.choice.other, block.choice))

    def _end_block(self, reader):
        reader.skip("end")
        block = self._blocks.pop()
        if block.role == "yes" or (block.role == "fun" and not block.has_given()):
            reader.refuse()

    def _do_deed(self, reader):
        block = self._blocks[-1]
        deed = _read_deed(reader)
        if block.has_given():
            reader.refuse()
        if (deed.verb == "tell" and block.role != "main") or (deed.verb == "give" and block.role != "fun"):
            reader.refuse()
        block.deeds.append(deed)
        if deed.verb == "if":
            # The first block is the body; each other one is a part of another choice.
            if len(self._blocks) > _MOST_DEEP:
                reader.refuse()
            self._blocks.append(Block("yes", deed.yes, deed))
