"""Rows run only where they are fine, on a pile of just the kinds given."""

from rowguard.errors import NotFine, NotSo
from rowguard.kinds import kinds_of
from rowguard.looking import looked
from rowguard.machine import run


def guarded(rows, given, pile, coming, most):
    """What run tells of rows that are fine with the kinds given; refuses with NotFine, else with NotSo."""
    seen = looked(rows, given)
    if seen[0] == "fault":
        fault = seen[1]
        raise NotFine(f"a fault is there: {fault!r}")
    kinds = kinds_of(pile)
    if kinds != given:
        raise NotSo(f"the pile has the kinds {kinds!r}, given are {given!r}")
    return run(rows, pile, coming, most)
