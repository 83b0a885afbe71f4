"""All ahead: the fewest numbers that settle if they are all handed in ahead."""

from whichheld.families import signs_at
from whichheld.tables import kinds_of
from whichheld.verdicts import fewest_numbers, is_numbers, leaders_of


def ahead_of(family, lies):
    """The tuple of the fewest numbers that settle with so many lies, in the order of inputs."""
    leaders = leaders_of(family)
    offers = [(gains_of(signs), number) for signs, number in kinds_of(leaders)]
    return fewest_numbers(needs_of(leaders, lies), offers)


def ahead_holds(family, lies, value):
    """Whether value, which may be any value, is a tuple of integers that settle with so many lies."""
    if not is_numbers(value):
        return False
    leaders = leaders_of(family)
    rows = [gains_of(signs_at(leaders, number)) for number in value]
    return all([sum([gains[at] for gains in rows]) >= need for at, need in enumerate(needs_of(leaders, lies))])


def gains_of(signs):
    """A list with an item for each two programs that have these signs: 1 if the signs are unlike, otherwise 0."""
    return [int(sign != other) for at, other in enumerate(signs) for sign in signs[:at]]


def needs_of(leaders, lies):
    """A list with an item for each two of the leaders: how many numbers must part them."""
    many = len(leaders)
    return [2 * lies + 1] * (many * (many - 1) // 2)
