"""Families: what one is, and its signs on a number."""

from whichheld.bounds import MAX_FAMILY
from whichheld.programs import program_error
from whichheld.runs import sign


def family_error(value):
    """None for a family, otherwise what is wrong first with value, which may be any value."""
    if not isinstance(value, tuple):
        return (None, "family")
    if not 1 <= len(value) <= MAX_FAMILY:
        return (None, "many")
    for index, program in enumerate(value):
        error = program_error(program)
        if error is not None:
            return (index, error)
    return None


def signs_at(family, number):
    """The tuple of the signs of the programs on the number."""
    return tuple([sign(program, number) for program in family])
