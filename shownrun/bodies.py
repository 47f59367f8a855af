"""What a right text is made of: bodies, the deeds of their lines, and expressions."""


class Number:
    """A number as a factor."""

    def __init__(self, number):
        self.number = number


class Name:
    """A lone name as a factor."""

    def __init__(self, name):
        self.name = name


class Picked:
    """The cell of a row, at an expression."""

    def __init__(self, name, at):
        self.name = name
        self.at = at


class Called:
    """The call of a function, with expressions as arguments."""

    def __init__(self, name, arguments):
        self.name = name
        self.arguments = tuple(arguments)


class Sum:
    """Pairs of a sign, plus or minus, and a term; the first sign is plus."""

    def __init__(self, parts):
        self.parts = tuple(parts)


class Product:
    """Two factors or more."""

    def __init__(self, factors):
        self.factors = tuple(factors)


class Group:
    """An expression in round brackets, which is never a lone name."""

    def __init__(self, inner):
        self.inner = inner


class Deed:
    """What a line of a body does: its verb, names and expressions.

    The verbs are ask, value, row, store, claim, if, tell and give. An if has the deeds of both parts.
    """

    def __init__(self, verb, line, names=(), worths=(), many=0):
        self.verb = verb
        self.line = line
        self.names = tuple(names)
        self.worths = tuple(worths)
        self.many = many
        self.yes = []
        self.other = []


class Body:
    """The main body, which has an empty name, or a function.

    The parameters are pairs of a name and the size of a row, or 0 for a value.
    """

    def __init__(self, name, parameters, line):
        self.name = name
        self.parameters = tuple(parameters)
        self.line = line
        self.deeds = []


def all_deeds(deeds):
    """The list of deeds, with those of both parts of each choice behind it."""
    found = []
    for deed in deeds:
        found.append(deed)
        found.extend(all_deeds(deed.yes))
        found.extend(all_deeds(deed.other))
    return found


def inner_worths(worth):
    """The list of the expressions that an expression is made of, one step into it."""
    if isinstance(worth, Picked):
        return [worth.at]
    if isinstance(worth, Called):
        return list(worth.arguments)
    if isinstance(worth, Sum):
        return [part for _, part in worth.parts]
    if isinstance(worth, Product):
        return list(worth.factors)
    return [worth.inner] if isinstance(worth, Group) else []


def joint_values(choice):
    """The ascending list of the names that both parts of a choice give as values."""
    others = _given_values(choice.other)
    return sorted([name for name in _given_values(choice.yes) if name in others])


def _given_values(deeds):
    """The names that deeds give and that are known as values behind them."""
    found = []
    for deed in deeds:
        if deed.verb in ("ask", "value"):
            found.extend(deed.names)
        elif deed.verb == "if":
            found.extend(joint_values(deed))
    return found
