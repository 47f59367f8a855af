"""The runs of programs: their rows and gaps, and the secrets that the rows of a run tell."""

from shownrun.errors import Broken, TooMany
from shownrun.machine import Machine
from shownrun.primes import ROWS
from shownrun.shapes import words_of, worths_of

_MOST_ROWS = 64
_MOST_GAPS = 192


def _gap_count(addresses):
    """How many addresses are missing between the least and the greatest of ascending ones."""
    return addresses[-1] + 1 - addresses[0] - len(addresses) if addresses else 0


class Run:
    """What a machine did up to its stop: its registers, touches, and how many secrets it took."""

    def __init__(self, program, registers, touches, used, *, p):
        self.program = program
        self.registers = words_of(registers, p)
        self.touches = tuple([words_of(pairs, p) for pairs in touches])
        self.p = p
        self._used = used

    @property
    def used(self):
        return self._used

    def _addresses(self):
        """The ascending list of the touched addresses."""
        return sorted(set([address for pairs in self.touches for address, _ in pairs]))

    @property
    def gaps(self):
        """The ascending tuple of the addresses between touched ones that are not touched."""
        addresses = self._addresses()
        # They are counted first, since there may be as many of them as worths.
        if _gap_count(addresses) > _MOST_GAPS:
            raise TooMany("gaps", _MOST_GAPS)
        return tuple([gap for low, high in zip(addresses, addresses[1:]) for gap in range(low + 1, high)])

    @property
    def needs(self):
        """The least T with a row of the stop line, and enough of these to touch all gaps; None if there is none."""
        missing = _gap_count(self._addresses())
        least = len(self.touches) + max(1, (missing + 2) // 3)
        fitting = [rows for rows in ROWS if rows >= least]
        return fitting[0] if fitting else None

    def __bool__(self):
        return True

    def __len__(self):
        return len(self.touches)

    def __eq__(self, other):
        return (isinstance(other, Run) and self.program == other.program and self.registers == other.registers
                and self.touches == other.touches and self._used == other.used and self.p == other.p)


def _registers_of(machine):
    return machine.pc, machine.fp, machine.ap


def _check_steps(machine):
    """Refuses a line more of a machine that did the most lines of a run."""
    if machine.steps == _MOST_ROWS:
        raise TooMany("rows", _MOST_ROWS)


def run(program, secrets=(), *, p):
    """The Run of a program with secrets."""
    machine = Machine(program, secrets, p=p)
    registers, touches = [_registers_of(machine)], []
    while not machine.done:
        _check_steps(machine)
        touches.append(machine.step())
        registers.append(_registers_of(machine))
    return Run(program, registers, touches, machine.used, p=p)


def lines_done(program, secrets=(), *, p):
    """The numbers of the lines that are done with secrets, up to the stop."""
    machine = Machine(program, secrets, p=p)
    while not machine.done:
        _check_steps(machine)
        line = machine.pc
        machine.step()
        yield line


def _told_secrets(machine, touches):
    """The secrets of a row that a machine does next, None if it does not do just this row."""
    pairs = words_of(touches, machine.p)
    try:
        done, secrets = machine.told_step([worth for _, worth in pairs])
    except Broken:
        return None
    return secrets if done == pairs else None


def secrets_of(program, registers, touches, *, p):
    """The list of the secrets that rows tell, None if there are none."""
    machine = Machine(program, p=p)
    secrets = []
    for at, triple in enumerate(registers):
        if worths_of(triple, p) != _registers_of(machine):
            return None
        if machine.done:
            return secrets
        more = _told_secrets(machine, touches[at]) if at < len(touches) else None
        if more is None:
            return None
        secrets = secrets + more
    return None
