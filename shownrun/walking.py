"""Walking a text: what it does with secrets, line by line."""

from shownrun.bodies import Called, Group, Name, Number, Picked, Product
from shownrun.errors import Broken, TooMany
from shownrun.shapes import worths_of

_MOST_DEEDS = 400
_MOST_CALLS = 12


class Walked:
    """The outputs of a walk, and how many secrets it took."""

    def __init__(self, outputs, used):
        self.outputs = tuple(outputs)
        self._used = used

    @property
    def used(self):
        return self._used

    def __eq__(self, other):
        return isinstance(other, Walked) and self.outputs == other.outputs and self._used == other.used


class Going:
    """A body that is done: its line, its values, and its rows as lists of worths, None where there is none."""

    def __init__(self, names):
        self.line = 0
        self.names = names


def _check_index(cells, at, line):
    if at >= len(cells):
        raise Broken(line, "index")


class Walker:
    """A walk of a text, with what it did so far."""

    def __init__(self, notes, secrets, p):
        self.outputs = []
        self.taken = 0
        self._main = notes.bodies[0]
        self._functions = {body.name: body for body in notes.bodies[1:]}
        self._secrets = secrets
        self._p = p
        self._begun = 0
        self._calls = 0

    def do_main(self):
        """Does the main body."""
        self._do_deeds(self._main.deeds, Going({}))

    def _next_secret(self, line):
        if self.taken == len(self._secrets):
            raise Broken(line, "secrets")
        self.taken += 1
        return self._secrets[self.taken - 1]

    def _do_deeds(self, deeds, going):
        """Does deeds, with those of the parts of choices; tells the worth of the last one."""
        told = None
        # The next deed stands last. Choices are not done by calls of their own, to keep the calls few.
        waiting = list(deeds)[::-1]
        while waiting:
            deed = waiting.pop()
            if self._begun == _MOST_DEEDS:
                raise TooMany("deeds", _MOST_DEEDS)
            self._begun += 1
            going.line = deed.line
            told = self._do_deed(deed, going)
            if deed.verb == "if":
                part = deed.yes if told != 0 else deed.other
                waiting = waiting + part[::-1]
        return told

    def _do_deed(self, deed, going):
        """Does a deed, of a choice only its own line; tells the worth of its expression."""
        if deed.verb == "ask":
            for name in deed.names:
                going.names[name] = self._next_secret(deed.line)
            return None
        if deed.verb == "row":
            going.names[deed.names[0]] = [None] * deed.many
            return None
        worth = self._worth(deed.worths[0], going)
        if deed.verb == "store":
            self._store(going.names[deed.names[0]], worth, deed.worths[1], going)
        elif deed.verb == "value":
            going.names[deed.names[0]] = worth
        elif deed.verb == "tell":
            self.outputs.append(worth)
        elif deed.verb == "claim" and worth != self._worth(deed.worths[1], going):
            raise Broken(deed.line, "claim")
        return worth

    def _store(self, cells, at, value, going):
        """Gives a cell the worth of an expression, or claims that it has it."""
        _check_index(cells, at, going.line)
        worth = self._worth(value, going)
        # The expression may have given the cell its worth, so it is looked at behind it.
        if cells[at] is None:
            cells[at] = worth
        elif cells[at] != worth:
            raise Broken(going.line, "cell")

    def _worth(self, worth, going):
        """The worth of an expression."""
        while isinstance(worth, Group):
            worth = worth.inner
        if isinstance(worth, Number):
            return worth.number % self._p
        if isinstance(worth, Name):
            return going.names[worth.name]
        if isinstance(worth, Picked):
            return self._cell_worth(going.names[worth.name], self._worth(worth.at, going), going.line)
        if isinstance(worth, Called):
            return self._called(worth, going)
        if isinstance(worth, Product):
            product = 1
            for factor in worth.factors:
                product = product * self._worth(factor, going) % self._p
            return product
        total = 0
        for sign, part in worth.parts:
            term = self._worth(part, going)
            total = total + (term if sign == "+" else -term)
        return total % self._p

    def _cell_worth(self, cells, at, line):
        """The worth of a cell of a row, which takes the next secret if it has none."""
        _check_index(cells, at, line)
        if cells[at] is None:
            cells[at] = self._next_secret(line)
        return cells[at]

    def _called(self, call, going):
        body = self._functions[call.name]
        names = {}
        for (name, many), argument in zip(body.parameters, call.arguments):
            # A row is handed on itself, not as a copy.
            names[name] = going.names[argument.name] if many else self._worth(argument, going)
        if self._calls == _MOST_CALLS:
            raise TooMany("calls", _MOST_CALLS)
        self._calls += 1
        given = self._do_deeds(body.deeds, Going(names))
        self._calls -= 1
        return given


def walk(notes, secrets=(), *, p):
    """The Walked of a walk of a text with secrets."""
    walker = Walker(notes, worths_of(secrets, p), p)
    walker.do_main()
    return Walked(walker.outputs, walker.taken)
