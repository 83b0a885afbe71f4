"""Promise 10: ahead_of and ahead_holds; promise 2 (c), (d)."""

import copy
import itertools
import random
import unittest

from whichheld.aheads import ahead_holds, ahead_of
from whichheld.hearing import left
from whichheld.plans import tries
from whichheld.programs import contrary
from whichheld.tables import kinds_of
from whichheld.verdicts import kin, parted
from fars import FAR_THREE, STARS, STEPS, moved, single
from heavies import FAR, FAR_ZERO, HEAVY, PAY, each_family
from kit import BIG, NO_NUMBERS, place_of, sort_of
from makers import random_family, second_signs

TWICE = (("pay", ("times", 2, "n")),)
THREE = (PAY, (("pay", ("minus", "n", 2)),), (("pay", ("plus", "n", 2)),))


def pairs_of(family):
    """The pairs of indexes of programs that are not alike."""
    groups = {at: place for place, group in enumerate(kin(family)) for at in group}
    return [pair for pair in itertools.combinations(range(len(family)), 2) if groups[pair[0]] != groups[pair[1]]]


def is_settled(family, lies, numbers):
    """Whether the numbers settle, by counting for each two programs."""
    rows = [second_signs(family, number) for number in numbers]
    return all(sum(row[one] != row[other] for row in rows) > 2 * lies for one, other in pairs_of(family))


def can_do(family, lies, size):
    """Whether so many numbers settle, by all choices of numbers that part different programs."""
    pairs = pairs_of(family)
    rows = {tuple([int(signs[one] != signs[other]) for one, other in pairs]) for signs, number in kinds_of(family)}
    # What parts less than another one does is never needed.
    rows = [row for row in rows if not any(row != other and all(a <= b for a, b in zip(row, other)) for other in rows)]
    return any(all(sum(row[at] for row in chosen) > 2 * lies for at in range(len(pairs)))
               for chosen in itertools.combinations_with_replacement(rows, size))


class Kit(unittest.TestCase):
    def check_ahead(self, family, lies, many):
        kept = copy.deepcopy(family)
        numbers = ahead_of(family, lies)
        self.assertEqual(sort_of(numbers), sort_of(tuple([int(number) for number in numbers])))
        self.assertEqual(len(numbers), many, (family, lies))
        self.assertEqual(list(numbers), sorted(numbers, key=place_of))
        self.assertTrue(is_settled(family, lies, numbers))
        self.assertIs(ahead_holds(family, lies, numbers), True)
        self.assertEqual(sort_of(ahead_of(family, lies)), sort_of(numbers))
        self.assertEqual(family, kept)


class AheadOfTest(Kit):
    def test_none_where_all_are_alike(self):
        for lies in (0, 1):
            for family in ((PAY,), (PAY, TWICE), ((),) * 5, (FAR, FAR_THREE[0])):
                self.assertEqual(sort_of(ahead_of(family, lies)), sort_of(()))

    def test_how_many(self):
        for family, none, one in (
                ((PAY, ()), 1, 3), (THREE, 1, 3), (STARS, 4, 9), (STARS[:2], 1, 3), (STARS[:3], 2, 5), (STARS[:4], 3, 7),
                (STEPS, 4, 12), (STEPS[:3], 2, 6), (FAR_THREE, 1, 3), ((FAR, FAR_THREE[1]), 1, 3),
                ((*STARS[:2], *STARS[:2], STARS[0]), 1, 3), (((), single(3), single(3, -1)), 1, 3),
                (((), single(3), single(-3), single(40), single(-90)), 4, 12)):
            self.check_ahead(family, 0, none)
            self.check_ahead(family, 1, one)

    def test_the_numbers_where_there_is_no_choice(self):
        self.assertEqual(ahead_of(FAR_THREE, 0), (FAR_ZERO,))
        self.assertEqual(ahead_of(FAR_THREE, 1), (FAR_ZERO,) * 3)
        family = (single(-7), single(7), (), single(-3))
        self.assertEqual(ahead_of(family, 0), (-3, 7, -7))
        self.assertEqual(ahead_of(family, 1), (-3,) * 3 + (7,) * 3 + (-7,) * 3)

    def test_as_few_as_can_be(self):
        source = random.Random(61)
        for family in (*each_family(source, 12), STARS[:4], STEPS[:4]):
            for lies in (0, 1):
                many = len(ahead_of(family, lies))
                self.check_ahead(family, lies, many)
                if many:
                    self.assertFalse(can_do(family, lies, many - 1))

    def test_chosen_families(self):
        source = random.Random(62)
        pool = [*STARS, *STEPS, *[single(number, shown) for number in (1, -4, 30) for shown in (1, -1)], PAY, (), *THREE]
        for _ in range(30):
            family = tuple(source.sample(pool, source.randint(2, 4)))
            for lies in (0, 1):
                many = len(ahead_of(family, lies))
                self.check_ahead(family, lies, many)
                self.assertFalse(many and can_do(family, lies, many - 1))
                self.assertLessEqual(tries(family, (), lies), many)

    def test_another_order_the_contrary_and_moved_inputs(self):
        source = random.Random(63)
        for family in (STARS, STEPS, THREE, *[random_family(source, 4) for _ in range(25)]):
            for lies in (0, 1):
                many = len(ahead_of(family, lies))
                self.check_ahead(tuple(source.sample(family, len(family))), lies, many)
                self.check_ahead(tuple([contrary(program) for program in family]), lies, many)
                self.check_ahead(tuple([moved(program, -23) for program in family]), lies, many)
                self.check_ahead((*family[:4], family[1]), lies, len(ahead_of(family[:4], lies)))

    def test_whatever_the_box_shows(self):
        source = random.Random(64)
        for family in (THREE, STARS[:3], FAR_THREE, *HEAVY[3:], *[random_family(source, 3) for _ in range(10)]):
            for lies in (0, 1):
                numbers = ahead_of(family, lies)
                for shown in itertools.islice(itertools.product((-1, 0, 1), repeat=len(numbers)), 800):
                    indexes = left(family, tuple(zip(numbers, shown)), lies)
                    for one, other in itertools.combinations(indexes, 2):
                        self.assertIsNone(parted(family[one], family[other]))


class AheadHoldsTest(unittest.TestCase):
    def check(self, family, lies, value, wanted):
        kept = copy.deepcopy(value)
        self.assertIs(ahead_holds(family, lies, value), wanted, (family, lies, value))
        self.assertEqual(sort_of(value), sort_of(kept))

    def test_the_example(self):
        self.assertEqual(
            [len(ahead_of(THREE, 0)), len(ahead_of(THREE, 1)), ahead_holds(THREE, 1, (0, 0, 0)), ahead_holds(THREE, 0, (2,)), ahead_holds(THREE, 1, (0, 0))],
            [1, 3, True, False, False])

    def test_any_order(self):
        source = random.Random(65)
        for family in (STARS, STEPS, FAR_THREE, *[random_family(source, 4) for _ in range(10)]):
            for lies in (0, 1):
                numbers = ahead_of(family, lies)
                for _ in range(5):
                    self.check(family, lies, tuple(source.sample(numbers, len(numbers))), True)
                    self.check(family, lies, (*numbers, source.randint(-99, 99)), True)
                    self.check(family, lies, (BIG, *numbers[::-1], -BIG), True)

    def test_one_less(self):
        source = random.Random(66)
        for family in (STARS, STEPS, THREE, FAR_THREE, *HEAVY, *[random_family(source, 4) for _ in range(20)]):
            for lies in (0, 1):
                numbers = ahead_of(family, lies)
                for at in range(len(numbers)):
                    self.check(family, lies, numbers[:at] + numbers[at + 1:], False)

    def test_by_counting(self):
        source = random.Random(67)
        counts = {True: 0, False: 0}
        for _ in range(200):
            family = random_family(source, source.randint(2, 4))
            for lies in (0, 1):
                numbers = list(ahead_of(family, lies))
                for _ in range(3):
                    value = [source.choice([*numbers, source.randint(-30, 30)]) for _ in range(source.randrange(7))]
                    value = tuple(value + source.choice(([], numbers[:-1], numbers[1:])))
                    wanted = is_settled(family, lies, value)
                    self.check(family, lies, value, wanted)
                    counts[wanted] += 1
        self.assertGreater(min(counts.values()), 100)

    def test_numbers_that_stand_several_times(self):
        self.check(STARS[:2], 1, (0, 0, 0), True)
        self.check(STARS[:2], 1, (0, 1, 6), True)
        self.check(STARS[:2], 1, (0, 1, 2), False)
        self.check(STARS[:2], 1, (0, 2, 0, 3, -6), True)
        self.check(STARS[:2], 0, (5, 4, 0), True)
        self.check(STARS[:2], 0, (5, 4, 3) * 1300, False)
        self.check(STARS[:2], 0, (5, 4, 3) * 1300 + (1,), True)
        self.check(FAR_THREE, 1, (FAR_ZERO,) * 2 + (FAR_ZERO + 1,), False)
        self.check(FAR_THREE, 1, (FAR_ZERO, 0, FAR_ZERO, 0, FAR_ZERO), True)

    def test_alike_ones_need_nothing(self):
        for value in ((), (0,), (BIG,) * 7):
            self.check((PAY, TWICE, PAY), 1, value, True)
            self.check((PAY,), 0, value, True)
            self.check((PAY, TWICE, ()), 1, value, len(value) == 7)

    def test_any_value(self):
        for value in NO_NUMBERS:
            for lies in (0, 1):
                self.check((PAY, ()), lies, value, False)
                self.check((PAY, TWICE), lies, value, False)

    def test_bools_for_numbers(self):
        self.check((PAY, ()), 1, (1, 1, 1), True)
        self.check((PAY, ()), 1, (1, 1, True), False)
        self.check((PAY, ()), 1, (1, 1, 1, False), False)
        self.check((PAY, ()), 0, (True,), False)


if __name__ == "__main__":
    unittest.main()
