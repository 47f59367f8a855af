"""The errors of the program: three bases, and one class for each kind of failure."""


class InvalidError(ValueError):
    """A value that was passed is wrong."""


class UnknownError(LookupError):
    """What was asked for is not there."""


class StateError(RuntimeError):
    """What was asked for cannot be done now."""


class BadProgram(InvalidError):
    """A text is no right text."""

    def __init__(self, line, why):
        self.line = line
        self.why = why


class BadLine(InvalidError):
    """A field of a line of a program is wrong."""

    def __init__(self, field):
        self.field = field


class BadPrime(InvalidError):
    """A prime does not fit a number of rows."""

    def __init__(self, p, rows):
        self.p = p
        self.rows = rows


class BadShape(InvalidError):
    """A list has a wrong length, or a value is out of its range."""

    def __init__(self, what, count):
        self.what = what
        self.count = count


class BadBook(InvalidError):
    """A line of a text is not the line of a book."""

    def __init__(self, line):
        self.line = line


class TooMany(InvalidError):
    """There are more things of a kind than there may be."""

    def __init__(self, what, most):
        self.what = what
        self.most = most


class NotNear(UnknownError):
    """No polynomial is near enough to a word."""

    def __init__(self, e):
        self.e = e


class UnknownName(UnknownError):
    """There is nothing of this name."""

    def __init__(self, name):
        self.name = name


class Broken(StateError):
    """A walk or a machine cannot go on at a line."""

    def __init__(self, line, why):
        self.line = line
        self.why = why


class NotWaiting(StateError):
    """A deed is out of turn."""

    def __init__(self, what):
        self.what = what
