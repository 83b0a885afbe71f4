"""Families that differ at one single integer alone, far out, and such that differ in a chosen way."""

from heavies import FAR, FAR_ZERO


# As FAR begins, but twice less, so that more statements have room.
LIGHT = FAR[:3] + (("repeat", 6, FAR[3][2]),)
LIGHT_ZERO = 7 * 81 ** 22


def at_far(sign):
    """A program with the sign of n - FAR_ZERO, but at FAR_ZERO itself with this one."""
    twice = ("pay", ("minus", ("times", 2, "n"), ("times", 2, "b")))
    return FAR[:-1] + ((twice,) if sign == 0 else (twice, ("pay", sign)))


def at_light(sign):
    """A program with the sign of n - LIGHT_ZERO, but at LIGHT_ZERO itself with this one; it has a contrary."""
    twice = (("pay", ("minus", "n", "b")),) * 2
    return LIGHT + (twice if sign == 0 else (*twice, ("pay", sign)))


def at_near(number, sign):
    """A program with the sign of n - number, but at number itself with this one; number from -99 to 99."""
    twice = ("pay", ("minus", ("times", 2, "n"), ("times", 2, number)))
    return (twice,) if sign == 0 else (twice, ("pay", sign))


def moved(program, shift):
    """The program that does with n what the given one does with n + shift, shift being from -99 to 99."""
    return (("set", "n", ("plus", "n", shift)), *program)


def marked(by, rest, sign=1):
    """A program with this sign on the numbers with this rest, and 0 on all others."""
    return (("if", ("rest", "n", by, rest), (("pay", sign),), ()),)


def single(number, sign=1):
    """A program with this sign on this number, and 0 on all others; number from -99 to 99."""
    inner = ("if", ("less", number, "n"), (), (("pay", sign),))
    return (("if", ("less", "n", number), (), (inner,)),)


FAR_THREE = (at_far(0), at_far(1), at_far(-1))
LIGHT_THREE = tuple([at_light(sign) for sign in (0, 1, -1)])

# Each program has the sign 1 at rests that no other one has.
STARS = tuple([marked(6, rest) for rest in range(5)])

# Each bound parts those below it from those above it, so one number alone parts two neighbours.
STEPS = tuple([(("if", ("less", "n", bound), (), (("pay", 1),)),) for bound in (-5, 0, 7, 20, 60)])
