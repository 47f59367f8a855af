"""The runs of programs: the secrets that the rows of a run tell."""

from shownrun.errors import Broken
from shownrun.machine import Machine
from shownrun.shapes import worths_of


def _told_secrets(machine, touches):
    """The secrets of a row that a machine does next, None if it does not do just this row."""
    pairs = tuple([worths_of(pair, machine.p) for pair in touches])
    try:
        done, secrets = machine.told_step([worth for _, worth in pairs])
    except Broken:
        return None
    return secrets if done == pairs else None


def secrets_of(program, registers, touches, *, p):
    """The list of the secrets that rows tell, None if there are none."""
    machine = Machine(program, p=p)
    secrets = []
    for at, triple in enumerate(registers):
        if worths_of(triple, p) != (machine.pc, machine.fp, machine.ap):
            return None
        if machine.done:
            return secrets
        more = _told_secrets(machine, touches[at]) if at < len(touches) else None
        if more is None:
            return None
        secrets = secrets + more
    return None
