"""The names of a text whose form is right: which are known and taken, and whether they are used rightly."""

from shownrun.bodies import Called, Name, Picked, inner_worths, joint_values
from shownrun.errors import BadProgram


class Known:
    """The names that are known at a line of a body, and those that are taken there."""

    def __init__(self, sizes, taken):
        self._sizes = dict(sizes)
        self._taken = dict(taken)

    def many_of(self, name):
        """The size of a row, 0 for a value, None for a name that is not known."""
        return self._sizes.get(name)

    def gain(self, name, many, line):
        """Makes a name that a line gives known."""
        if name in self._taken:
            raise BadProgram(line, "name")
        self._sizes[name] = many
        self._taken[name] = True

    def branched(self):
        """The same names, for a part of a choice."""
        return Known(self._sizes, self._taken)

    def leave_choice(self, parts, values):
        """Makes the values that both parts of a choice give known, and takes all names of both."""
        for name in values:
            self._sizes[name] = 0
        for part in parts:
            self._taken.update(part._taken)


def _check_lone(name, known, line):
    """Looks at a lone name where a value is due."""
    many = known.many_of(name)
    if many is None:
        raise BadProgram(line, "name")
    if many != 0:
        raise BadProgram(line, "kind")


def _check_row(name, known, line):
    """Looks at a name where a row is due; tells its size."""
    many = known.many_of(name)
    if many is None:
        raise BadProgram(line, "name")
    if many == 0:
        raise BadProgram(line, "kind")
    return many


class Naming:
    """The names of a text, whose functions may be called from everywhere."""

    def __init__(self, bodies):
        self._functions = {}
        for body in bodies[1:]:
            # Of functions with one name the first one is called.
            self._functions.setdefault(body.name, body)

    def check_bodies(self, bodies):
        """Raises the error of the first name that is used wrongly."""
        earlier = {}
        for body in bodies:
            if body.name in earlier:
                raise BadProgram(body.line, "name")
            earlier[body.name] = True
            known = Known({}, {})
            for name, many in body.parameters:
                known.gain(name, many, body.line)
            self._check_deeds(body.deeds, known)

    def _check_deeds(self, deeds, known):
        for deed in deeds:
            if deed.verb == "store":
                _check_row(deed.names[0], known, deed.line)
            for worth in deed.worths:
                self._check_worth(worth, known, deed.line)
            if deed.verb in ("ask", "value", "row"):
                for name in deed.names:
                    known.gain(name, deed.many, deed.line)
            elif deed.verb == "if":
                self._check_parts(deed, known)

    def _check_parts(self, choice, known):
        """Looks at both parts of a choice; known becomes what is known behind it."""
        parts = [known.branched(), known.branched()]
        self._check_deeds(choice.yes, parts[0])
        self._check_deeds(choice.other, parts[1])
        known.leave_choice(parts, joint_values(choice))

    def _check_worth(self, worth, known, line):
        """Looks at the names of an expression from left to right."""
        if isinstance(worth, Name):
            _check_lone(worth.name, known, line)
        elif isinstance(worth, Called):
            self._check_call(worth, known, line)
        else:
            if isinstance(worth, Picked):
                _check_row(worth.name, known, line)
            for inner in inner_worths(worth):
                self._check_worth(inner, known, line)

    def _check_call(self, call, known, line):
        body = self._functions.get(call.name)
        if body is None:
            raise BadProgram(line, "name")
        if len(call.arguments) != len(body.parameters):
            raise BadProgram(line, "count")
        for argument, (_, many) in zip(call.arguments, body.parameters):
            if many == 0:
                self._check_worth(argument, known, line)
            elif not isinstance(argument, Name):
                raise BadProgram(line, "kind")
            elif _check_row(argument.name, known, line) != many:
                raise BadProgram(line, "count")


def check_names(bodies):
    """Raises the error of the first name of a text that is used wrongly."""
    naming = Naming(bodies)
    naming.check_bodies(bodies)
