"""Verdicts: what parts two programs, which are alike, and the fewest numbers that kill."""

from whichheld.families import signs_at
from whichheld.forms import is_between, is_integer
from whichheld.programs import mutants
from whichheld.tables import kinds_of, order_of


def parted(one, other):
    """The first number on which the two programs have unlike signs, or None if they are alike."""
    numbers = [number for signs, number in kinds_of((one, other)) if signs[0] != signs[1]]
    return min(numbers, key=order_of, default=None)


def kin(family):
    """The tuple of the tuples of the indexes of programs that are alike, those with the least index first."""
    kinds = kinds_of(family)
    groups = {}
    for index in range(len(family)):
        # Alike programs, and no others, have the same sign in each of the kinds.
        column = tuple([signs[index] for signs, number in kinds])
        groups.setdefault(column, []).append(index)
    return tuple([tuple(group) for group in groups.values()])


def leaders_of(family):
    """The family of the first program of each kin."""
    return tuple([family[group[0]] for group in kin(family)])


def where(family, signs):
    """The first number on which the family has these signs, which may be any value, or None."""
    # What only compares equal to signs, as bools do, must not be looked up.
    if not isinstance(signs, tuple) or not all([is_between(sign, -1, 1) for sign in signs]):
        return None
    return dict(kinds_of(family)).get(signs)


def kills(family):
    """The tuple of the fewest numbers that part the first program from all that are not alike to it."""
    leaders = leaders_of(family)
    offers = [([int(sign != signs[0]) for sign in signs[1:]], number) for signs, number in kinds_of(leaders)]
    return fewest_numbers([1] * (len(leaders) - 1), offers)


def kills_hold(family, value):
    """Whether value, which may be any value, is a tuple of integers that kill."""
    if not is_numbers(value):
        return False
    leaders = leaders_of(family)
    rows = [signs_at(leaders, number) for number in value]
    return all([any([signs[at] != signs[0] for signs in rows]) for at in range(1, len(leaders))])


def unkilled(program):
    """The ascending tuple of the indexes of the mutants that are alike to the program."""
    return tuple([index for index, other in enumerate(mutants(program)) if parted(program, other) is None])


def is_numbers(value):
    """Whether value, which may be any value, is a tuple of integers."""
    return isinstance(value, tuple) and all([is_integer(number) for number in value])


# An offer (gains, number) tells for each of several needs whether the number
# meets it once (1) or not (0). A need is how often it must still be met.


def fewest_numbers(needs, offers):
    """The tuple of the fewest numbers that meet all needs, in the order of inputs; each need can be met."""
    useful = best_offers(offers)
    # The need that few numbers meet stands first, as it leaves the fewest ways.
    places = sorted(range(len(needs)), key=lambda at: many_meeting(at, useful))
    wanted = tuple([needs[at] for at in places])
    moved = [([gains[at] for at in places], number) for gains, number in useful]
    most, numbers, failed = 0, None, {}
    while numbers is None:
        numbers = numbers_within(wanted, moved, most, failed)
        most += 1
    return tuple(sorted(numbers, key=order_of))


def many_meeting(at, offers):
    """How many of the offers meet the need at this index."""
    return sum([gains[at] for gains, number in offers])


def best_offers(offers):
    """The offers without those that another one is as good as, with the first number of those with the same gains."""
    numbers = {}
    for gains, number in sorted(offers, key=lambda offer: order_of(offer[1])):
        numbers.setdefault(tuple(gains), number)
    return [(gains, number) for gains, number in numbers.items()
            if not any([is_outdone(gains, others) for others in numbers])]


def is_outdone(gains, others):
    """Whether the others are other gains that lack nothing of these."""
    return gains != others and all([one <= other for one, other in zip(gains, others)])


def numbers_within(needs, offers, most, failed):
    """A list of at most so many numbers that meet all needs, or None; failed gets what cannot be met."""
    wanting = [at for at, need in enumerate(needs) if need > 0]
    if not wanting:
        return []
    if max(needs) > most or (needs, most) in failed:
        return None
    for gains, number in offers:
        # One of the numbers meets this need, and which one comes first is all the same.
        if gains[wanting[0]] == 1:
            others = numbers_within(lessened(needs, gains), offers, most - 1, failed)
            if others is not None:
                return [number, *others]
    failed[(needs, most)] = True
    return None


def lessened(needs, gains):
    """The needs that are left behind a number with these gains."""
    return tuple([max(0, need - gain) for need, gain in zip(needs, gains)])
