"""Families at the bounds of what a program may have, and ways to look into tables of signs."""

from kit import BIG
from makers import random_family

PAY = (("pay", "n"),)
STOP = ("stop",)

GROWN = ("repeat", 7, (("set", "a", ("times", 9, ("times", 9, "a"))), ("set", "a", ("plus", "a", "n")),
                       ("set", "b", ("plus", ("times", 9, "b"), 7))))


def crossing(by, other, shift):
    """A program with two rests and two comparings one behind the other, which all tell in the total."""
    return (
        ("if", ("rest", "n", by, 1), (("set", "a", ("plus", "n", shift)),), (("set", "a", ("minus", 5, "n")),)),
        ("if", ("not", ("rest", ("plus", "n", "a"), other, 0)), (("set", "b", ("minus", 40, "n")),), ()),
        ("if", ("less", "n", ("plus", "b", shift)), (("pay", ("plus", "a", 17)),), (
            ("pay", ("minus", ("times", 3, "b"), ("times", 2, "n"))), ("pay", 99))),
        ("if", ("less", ("times", -2, "a"), ("plus", "b", 9)), (("pay", ("minus", 60, "n")), STOP), (("pay", -7),)),
        ("pay", ("plus", "b", ("times", 2, "n"))),
    )


def wave(by, other, shift):
    """A program with two rests and two comparings whose sign changes at five numbers for each rest."""
    return (
        ("set", "a", "n"),
        ("if", ("rest", ("times", -3, "n"), by, 1), (("set", "a", ("plus", "a", shift)),), ()),
        ("if", ("not", ("rest", ("plus", "n", 2), other, 0)), (), (("set", "a", ("minus", "a", shift - 7)),)),
        ("if", ("less", "a", ("times", 9, -60)), (("pay", ("plus", "a", ("times", 9, 99))),), (
            ("if", ("not", ("not", ("less", ("times", 9, 60), "a"))),
             (("pay", ("minus", "a", ("times", 9, 99))),), (("pay", "a"),)),)),
    )


def repeated(shift):
    """A program with a rest and a comparing within a repeat, of the greatest weight."""
    return (
        ("repeat", 2, (
            ("if", ("rest", "n", 5, 3), (("set", "n", ("plus", "n", shift)),), (("pay", 1),)),
            ("if", ("less", ("times", 3, "n"), ("plus", "a", shift)), (("set", "a", "n"), ("pay", "n")),
             (("set", "n", ("minus", "n", 90)), ("pay", ("minus", 5, "a"))))), ),
        ("repeat", 8, (("pay", ("minus", "a", 2)),)),
        ("repeat", 1, (("set", "a", ("times", 2, "a")),)),
        ("pay", "a"), ("pay", ("times", -3, "n")),
    )


# Its sign changes at one single number alone, which has more than fifty digits.
FAR = (
    ("set", "b", 7), ("repeat", 8, (("set", "b", ("times", 9, ("times", 9, "b"))),)),
    ("repeat", 8, (("set", "b", ("times", 9, ("times", 9, "b"))),)),
    ("repeat", 8, (("set", "b", ("times", 9, ("times", 9, "b"))),)),
    ("pay", ("minus", "n", "b")),
)
FAR_ZERO = 7 * 81 ** 24

HEAVY = (
    (wave(4, 5, 70), wave(5, 6, -80), wave(3, 5, -50), wave(4, 3, 99), wave(6, 4, 20)),
    (crossing(4, 5, 30), crossing(5, 6, -41), crossing(3, 5, 12), crossing(4, 3, 0)),
    (repeated(50), repeated(-7), crossing(5, 4, 3), FAR, ()),
    (GROWN[2] + (("pay", ("minus", "a", "b")),), PAY, FAR),
    ((GROWN, ("pay", ("minus", "a", "b"))), FAR, (("pay", ("minus", ("times", 7, "n"), 50)),)),
)


def rows_about(rows, number):
    """The rows that are about the number."""
    return [row for row in rows if number % row[1] == row[0]
            and (row[2] is None or row[2] <= number) and (row[3] is None or number <= row[3])]


def edges(rows):
    """The numbers at and beside the bounds of the rows."""
    found = {}
    for rest, by, low, high, signs in rows:
        for bound in (low, high):
            for number in () if bound is None else (bound - by, bound - 1, bound, bound + 1, bound + by):
                found[number] = True
    return sorted(found)


def numbers_for(source, rows):
    """Numbers near 0, at the bounds of the rows, and far out."""
    beside = edges(rows)
    far = [source.randint(-10 ** digits, 10 ** digits) for digits in range(2, 61, 4)]
    return [*range(-70, 71), *source.sample(beside, min(60, len(beside))), *far, BIG, -BIG]


def each_family(source, count):
    """The heavy families, and so many random ones of each size."""
    for family in HEAVY:
        yield family
    for size in range(1, 6):
        for _ in range(count):
            yield random_family(source, size)
