"""Plans: what is handed in next by what was heard, with the fewest tries that surely settle it."""

from whichheld.families import signs_at
from whichheld.forms import is_integer
from whichheld.hearing import wrong_in
from whichheld.tables import kinds_of, order_of
from whichheld.verdicts import leaders_of

SIGNS = (-1, 0, 1)
OUT = -1

# Alike programs are left together, so one of each kin, its leader, stands for
# them all. The chances of the leaders are how many more wrong answers each of
# them may have had; it is OUT if it is not left. It is settled where the
# chances of at most one leader are not OUT.


def tries(family, heard, lies):
    """The fewest tries of a plan that settles behind what was heard."""
    return tries_and_plan(family, heard, lies)[0]


def plan_of(family, heard, lies):
    """A plan that settles behind what was heard, with the fewest tries."""
    return tries_and_plan(family, heard, lies)[1]


def plan_holds(family, heard, lies, most, value):
    """Whether value, which may be any value, is a plan that settles and has at most so many tries."""
    if not is_plan(value) or tries_in(value) > most:
        return False
    leaders = leaders_of(family)
    return is_settling(value, chances_of(leaders, heard, lies), leaders, {})


def is_plan(value):
    """Whether value, which may be any value, has the form of a plan."""
    if value == ():
        return True
    if not isinstance(value, tuple) or len(value) != 4 or not is_integer(value[0]):
        return False
    return all([is_plan(inner) for inner in value[1:]])


def tries_in(plan):
    """The tries of the plan."""
    if plan == ():
        return 0
    return 1 + max([tries_in(inner) for inner in plan[1:]])


def is_settling(plan, chances, leaders, told):
    """Whether the plan settles from these chances on; told gets the signs of the leaders on its numbers."""
    if plan == ():
        return len(left_ones(chances)) <= 1
    number = plan[0]
    if number not in told:
        told[number] = signs_at(leaders, number)
    return all([is_settling(inner, chances_behind(chances, told[number], shown), leaders, told)
                for shown, inner in zip(SIGNS, plan[1:])])


def tries_and_plan(family, heard, lies):
    """(tries, plan) with the fewest tries that settle behind what was heard."""
    leaders = leaders_of(family)
    kinds = sorted(kinds_of(leaders), key=lambda kind: order_of(kind[1]))
    return best_plan(chances_of(leaders, heard, lies), kinds, {})


def chances_of(leaders, heard, lies):
    """The chances of the leaders behind what was heard."""
    return tuple([max(OUT, lies - wrong_in(program, heard)) for program in leaders])


def chances_behind(chances, signs, shown):
    """The chances when the box has shown this sign, where the leaders have these signs."""
    return tuple([chance if sign == shown else max(OUT, chance - 1) for chance, sign in zip(chances, signs)])


def left_ones(chances):
    """The indexes of the leaders that are left."""
    return [index for index, chance in enumerate(chances) if chance != OUT]


def best_plan(chances, kinds, known):
    """(tries, plan) with the fewest tries that settle from these chances on; known gets all that is found."""
    if chances not in known:
        found = (0, ())
        for signs, number in telling_kinds(chances, kinds):
            # Whatever is shown, a leader that is left has another sign, so there are fewer chances behind it.
            inner = [best_plan(chances_behind(chances, signs, shown), kinds, known) for shown in SIGNS]
            many = 1 + max([row[0] for row in inner])
            if found[0] == 0 or many < found[0]:
                found = (many, (number, *[row[1] for row in inner]))
        known[chances] = found
    return known[chances]


def telling_kinds(chances, kinds):
    """The kinds on whose numbers not all leaders that are left have the same sign, one for each row of their signs."""
    ones = left_ones(chances)
    found = {}
    for signs, number in kinds:
        row = tuple([signs[index] for index in ones])
        if len(set(row)) > 1:
            found.setdefault(row, (signs, number))
    return list(found.values())
