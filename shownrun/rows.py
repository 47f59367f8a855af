"""The first columns of the rows of a run, and whether rows are a run."""

from shownrun.bags import Bag
from shownrun.equations import failing_first
from shownrun.errors import BadShape, TooMany, UnknownName
from shownrun.primes import ROWS
from shownrun.runs import secrets_of
from shownrun.shapes import FIRST, list_length, row_fields, words_of

COLUMNS = ("pc", "fp", "ap", "add", "mul", "set", "same", "jz", "call", "ret", "here", "stop",
           "a", "b", "c", "imm", "da", "dv", "xa", "xv", "ya", "yv", "t",
           "A1", "V1", "A2", "V2", "A3", "V3", "g1", "g2", "g3", "s1", "s2", "s3", "R")
_TOUCHES = 16
_SORTED = 23


def _check_columns(columns):
    count = list_length(columns)
    if count != FIRST:
        raise BadShape("columns", count)
    lengths = [list_length(column) for column in columns]
    if lengths[0] not in ROWS:
        raise BadShape("rows", lengths[0])
    for length in lengths:
        if length != lengths[0]:
            raise BadShape("rows", length)


def _number_of(name):
    """The number of a first column with this name."""
    names = list(COLUMNS[:FIRST])
    if name not in names:
        raise UnknownName(name)
    return names.index(name)


class Rows:
    """The 29 first columns, each with a worth for each row."""

    def __init__(self, columns, *, p):
        _check_columns(columns)
        self.columns = words_of(columns, p)
        self.p = p

    def row(self, at):
        """The worths of a row."""
        return tuple([column[at] for column in self.columns])

    def column(self, name):
        """The worths of a column."""
        return self.columns[_number_of(name)]

    def changed(self, name, at, worth):
        """New Rows with another worth of a column in a row."""
        number = _number_of(name)
        made = [list(column) for column in self.columns]
        made[number][at] = worth
        return Rows(made, p=self.p)

    def register_rows(self):
        """The list of the triples (pc, fp, ap)."""
        return list(zip(self.columns[0], self.columns[1], self.columns[2]))

    def triples(self):
        """The list of the triples of the pairs (address, worth) of d, x, y."""
        pairs = self.touch_pairs()
        return list(zip(pairs[0::3], pairs[1::3], pairs[2::3]))

    def _pairs(self, first):
        """The pairs of the six columns from the first one on, row by row."""
        return [(self.columns[k][at], self.columns[k + 1][at])
                for at in range(len(self)) for k in (first, first + 2, first + 4)]

    def touch_pairs(self):
        """The list of the touches."""
        return self._pairs(_TOUCHES)

    def sorted_touches(self):
        """The list of the sorted touches."""
        return self._pairs(_SORTED)

    def fields(self):
        """The Bag of the fields of the rows."""
        items = [row_fields(self.row(at)) for at in range(len(self))]
        return Bag(*items)

    def counted(self, program):
        """How many rows have the pc of each line; a row with another pc is counted at line 0."""
        counts = [0] * len(program)
        for pc in self.columns[0]:
            at = pc if pc < len(program) else 0
            counts[at] = counts[at] + 1
        return counts

    def secrets(self, program):
        """The list of the secrets that these rows tell, None if there are none."""
        return secrets_of(program, self.register_rows(), self.triples(), p=self.p)

    def __len__(self):
        return len(self.columns[0])

    def __eq__(self, other):
        return isinstance(other, Rows) and self.p == other.p and self.columns == other.columns

    def __repr__(self):
        return f"Rows({len(self.columns[0])} rows)"


def _padding(run, count):
    """The list of the touches of the stop rows: the gaps, and one pair again and again behind them."""
    touched = [pair for pairs in run.touches for pair in pairs]
    made = [(address, 0) for address in run.gaps]
    again = min(touched) if touched else (3, 0)
    return made + [again] * (count - len(made))


def _row_worths(run, registers, touches):
    """The worths of a row ahead of its sorted touches."""
    pc, fp, ap = registers
    (da, dv), (xa, xv), (ya, yv) = touches
    fields = run.program.lines[pc].fields(pc, p=run.p)
    return (pc, fp, ap) + fields[1:] + (da, dv, xa, xv, ya, yv, 1 - xv * yv)


def filled(run, rows):
    """The Rows of a run, filled with rows of its stop line."""
    needs = run.needs
    if needs is None or needs > rows:
        raise TooMany("rows", rows)
    missing = rows - len(run)
    more = _padding(run, 3 * missing)
    registers = list(run.registers) + [run.registers[-1]] * (missing - 1)
    touches = list(run.touches) + list(zip(more[0::3], more[1::3], more[2::3]))
    made = [_row_worths(run, triple, pairs) for triple, pairs in zip(registers, touches)]
    ordered = sorted([pair for pairs in touches for pair in pairs])
    joined = [one + other + another for one, other, another in zip(ordered[0::3], ordered[1::3], ordered[2::3])]
    columns = list(zip(*made)) + list(zip(*joined))
    return Rows(columns, p=run.p)


def is_run(program, rows):
    """Whether Rows are a run of a program."""
    if failing_first(rows, frame=program.frame):
        return False
    if sorted(rows.touch_pairs()) != sorted(rows.sorted_touches()):
        return False
    fields = [line.fields(at, p=rows.p) for at, line in enumerate(program.lines)]
    return all([row_fields(rows.row(at)) in fields for at in range(len(rows))])
