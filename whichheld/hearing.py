"""Hearing: what was heard, and which programs are left behind it."""

from whichheld.bounds import MAX_HEARD
from whichheld.forms import is_between, is_integer
from whichheld.runs import sign


def heard_error(value):
    """None for what was heard, otherwise what is wrong first with value, which may be any value."""
    if not isinstance(value, tuple):
        return (None, "heard")
    for index, pair in enumerate(value):
        if not is_pair(pair):
            return (index, "pair")
    if len(value) > MAX_HEARD:
        return (None, "many")
    return None


def is_pair(value):
    """Whether value is a pair of an integer and a sign."""
    return isinstance(value, tuple) and len(value) == 2 and is_integer(value[0]) and is_between(value[1], -1, 1)


def left(family, heard, lies):
    """The ascending tuple of the indexes of the programs that are left behind what was heard."""
    return tuple([index for index, program in enumerate(family) if wrong_in(program, heard) <= lies])


def wrong_in(program, heard):
    """How many of the pairs have a sign that is not the program's own."""
    return len([number for number, shown in heard if sign(program, number) != shown])
