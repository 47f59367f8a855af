"""Lots whose members are found one by one, which is done for small primes only."""

from shownrun.errors import TooMany

_MOST_PRIME = 800


def check_counted(p):
    """Refuses primes whose worths are too many to be tried one by one."""
    if p > _MOST_PRIME:
        raise TooMany("worths", _MOST_PRIME)
