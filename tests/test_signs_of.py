"""Promise 7: signs_of and kinds_of."""

import copy
import random
import unittest

from whichheld.families import family_error
from whichheld.programs import contrary
from whichheld.tables import kinds_of, signs_hold, signs_of
from heavies import FAR, FAR_ZERO, HEAVY, PAY, STOP, each_family, numbers_for, rows_about
from kit import in_order, sort_of
from makers import denied, random_family, renamed, second_signs, written_out

THIRD = ((("if", ("rest", "n", 3, 2), (("pay", 1),), ()),),)


class Kit(unittest.TestCase):
    def check_row(self, row):
        self.assertIs(type(row), tuple)
        self.assertEqual([type(part) for part in row[:2]], [int, int])
        rest, by, low, high, signs = row
        self.assertTrue(1 <= by <= 10 ** 6 and 0 <= rest < by, row)
        for bound in (low, high):
            self.assertTrue(bound is None or type(bound) is int, row)
        self.assertEqual([(type(part), part in (-1, 0, 1)) for part in signs], [(int, True)] * len(signs))
        if low is not None and high is not None:
            self.assertLessEqual(low + (rest - low) % by, high, row)


class SignsOfTest(Kit):
    def check(self, family, numbers, rows):
        for number in numbers:
            found = rows_about(rows, number)
            self.assertEqual(len(found), 1, (family, number))
            self.assertEqual(found[0][4], second_signs(family, number), (family, number))

    def test_the_heavy_families(self):
        self.assertEqual([family_error(family) for family in HEAVY], [None] * len(HEAVY))

    def test_rows_that_tell_the_signs(self):
        source = random.Random(9)
        for family in each_family(source, 25):
            kept = copy.deepcopy(family)
            rows = signs_of(family)
            self.assertIs(type(rows), tuple)
            for row in rows:
                self.check_row(row)
                self.assertEqual(len(row[4]), len(family))
            self.check(family, numbers_for(source, rows), rows)
            self.assertIs(signs_hold(family, rows), True)
            self.assertEqual(family, kept)
            self.assertEqual(sort_of(signs_of(family)), sort_of(rows))

    def test_simple_ones(self):
        for family in (((),), (PAY,), (PAY, (), PAY, FAR, ()), THIRD, ((STOP, *PAY),), THIRD * 5,
                       ((("pay", ("times", 0, "n")),),), ((("pay", ("minus", ("times", 2, "n"), 5)),),)):
            rows = signs_of(family)
            self.check(family, (*range(-30, 31), FAR_ZERO - 1, FAR_ZERO, FAR_ZERO + 1, -FAR_ZERO), rows)

    def test_a_sign_that_0_alone_or_no_integer_has(self):
        for low in range(-20, 21):
            for factor in (-9, -4, -2, -1, 1, 2, 3, 9):
                family = ((("pay", ("plus", ("times", factor, "n"), low)),),)
                self.check(family, range(-25, 26), signs_of(family))

    def test_comparings_at_each_bound(self):
        for bound in range(-13, 14):
            for factor in (-9, -4, -2, -1, 0, 1, 2, 3, 9):
                test = ("less", ("times", factor, "n"), bound)
                family = ((("if", test, (("pay", 1),), (("pay", -1),)),), (("if", ("not", test), (("pay", 1),), ()),))
                self.check(family, range(-25, 26), signs_of(family))

    def test_rests_of_each_factor(self):
        for by in range(2, 7):
            for factor in range(-9, 10):
                test = ("rest", ("plus", ("times", factor, "n"), 4), by, by - 1)
                family = ((("if", test, (("pay", 1),), (("pay", -1),)),), (("if", ("not", test), (("pay", 1),), ()),))
                self.check(family, range(-25, 26), signs_of(family))

    def test_the_greatest_period(self):
        family = tuple([(("if", ("rest", "n", by, 1), (("pay", 1),), ()), ("if", ("rest", "n", other, 0), PAY, ()))
                        for by, other in ((2, 3), (4, 5), (6, 2))])
        self.check(family, range(-130, 131), signs_of(family))


class OtherWritingTest(Kit):
    def test_the_same_written_otherwise(self):
        source = random.Random(10)
        for _ in range(60):
            family = random_family(source, 2)
            kinds = kinds_of(family)
            for change in (denied, renamed, written_out):
                other = tuple([change(program) for program in family])
                self.assertEqual(kinds_of(other), kinds)
                self.assertIs(signs_hold(other, signs_of(family)), True)

    def test_the_contrary(self):
        source = random.Random(11)
        for _ in range(60):
            family = random_family(source, 2)
            other = tuple([contrary(program) for program in family])
            rows = tuple([(*row[:4], tuple([-sign for sign in row[4]])) for row in signs_of(family)])
            self.assertIs(signs_hold(other, rows), True)
            wanted = sorted([(tuple([-sign for sign in signs]), number) for signs, number in kinds_of(family)])
            self.assertEqual(kinds_of(other), tuple(wanted))


class KindsTest(Kit):
    def check(self, family, wanted):
        kept = copy.deepcopy(family)
        self.assertEqual(sort_of(kinds_of(family)), sort_of(wanted))
        self.assertEqual(family, kept)

    def test_the_example(self):
        family = ((("pay", "n"),), (("pay", ("minus", "n", 2)),))
        rows = ((0, 1, None, -1, (-1, -1)), (0, 1, 0, 0, (0, -1)), (0, 1, 1, 1, (1, -1)), (0, 1, 2, 2, (1, 0)), (0, 1, 3, None, (1, 1)))
        self.assertEqual(
            [signs_hold(family, rows), signs_hold(family, rows[1:]), signs_hold(family, signs_of(family)), kinds_of(family)],
            [True, False, True, (((-1, -1), -1), ((0, -1), 0), ((1, -1), 1), ((1, 0), 2), ((1, 1), 3))])

    def test_one_kind_alone(self):
        self.check(((),), (((0,), 0),))
        self.check(((("pay", 1),), (("pay", -1),), ()), (((1, -1, 0), 0),))

    def test_the_order_of_signs(self):
        self.check((PAY,), (((-1,), -1), ((0,), 0), ((1,), 1)))
        self.check((PAY, (("pay", ("times", -1, "n")),)), (((-1, 1), -1), ((0, 0), 0), ((1, -1), 1)))
        self.check(((("pay", 5),), PAY), (((1, -1), -1), ((1, 0), 0), ((1, 1), 1)))

    def test_the_first_of_two_as_near(self):
        family = ((("if", ("less", ("times", 9, 5), "n"), (("pay", 1),),
                    (("if", ("less", "n", ("times", -9, 5)), (("pay", 1),), ()),)),),)
        self.check(family, (((0,), 0), ((1,), 46)))
        family = ((("if", ("less", ("times", 9, 5), "n"), (("pay", 1),),
                    (("if", ("less", "n", ("plus", 1, ("times", -9, 5))), (("pay", 1),), ()),)),),)
        self.check(family, (((0,), 0), ((1,), -45)))

    def test_rests(self):
        self.check(THIRD, (((0,), 0), ((1,), -1)))
        self.check(((("if", ("rest", "n", 6, 3), (("pay", 1),), ()),),), (((0,), 0), ((1,), 3)))
        self.check(((("if", ("rest", "n", 6, 4), (("pay", 1),), ()),),), (((0,), 0), ((1,), -2)))
        family = ((("if", ("rest", "n", 5, 2), (("pay", ("minus", "n", 10)),), ()),),)
        self.check(family, (((-1,), 2), ((0,), 0), ((1,), 12)))

    def test_rests_beside_a_bound(self):
        for low in range(-8, 9):
            for high in range(low, 9):
                for by in (2, 5, 6):
                    for rest in range(by):
                        inner = ("if", ("rest", "n", by, rest), (("pay", 1),), ())
                        family = ((("if", ("less", "n", low), (), (("if", ("less", high, "n"), (), (inner,)),)),),)
                        first = [number for number in in_order(21) if low <= number <= high and number % by == rest]
                        none = [number for number in in_order(21) if number not in first][0]
                        self.check(family, (((0,), none), *[((1,), number) for number in first[:1]]))

    def test_far_from_0(self):
        self.check((FAR,), (((-1,), 0), ((0,), FAR_ZERO), ((1,), FAR_ZERO + 1)))
        self.check((contrary(FAR), PAY), (
            ((-1, 1), FAR_ZERO + 1), ((0, 1), FAR_ZERO), ((1, -1), -1), ((1, 0), 0), ((1, 1), 1)))
        below = FAR[:-1] + (("pay", ("plus", "n", "b")),)
        self.check((below,), (((-1,), -FAR_ZERO - 1), ((0,), -FAR_ZERO), ((1,), 0)))
        one = FAR[:-1] + (("if", ("rest", "n", 5, FAR_ZERO % 5), (("pay", ("minus", "n", "b")),), (("pay", -1),)),)
        self.check((one,), (((-1,), 0), ((0,), FAR_ZERO), ((1,), FAR_ZERO + 5)))
        none = FAR[:-1] + (("if", ("rest", "n", 5, (FAR_ZERO + 1) % 5), (("pay", ("minus", "n", "b")),), ()),)
        first = [number for number in in_order(9) if number % 5 == (FAR_ZERO + 1) % 5][0]
        self.check((none,), (((-1,), first), ((0,), 0 if first else 1), ((1,), FAR_ZERO + 1)))

    def test_against_a_search(self):
        source = random.Random(12)
        for family in each_family(source, 40):
            kinds = kinds_of(family)
            self.assertEqual(list(kinds), sorted(kinds))
            found = {}
            for number in in_order(401):
                found.setdefault(second_signs(family, number), number)
            for signs, number in kinds:
                self.assertEqual(sort_of(second_signs(family, number)), sort_of(signs))
                if abs(number) <= 200:
                    self.assertEqual(found.pop(signs), number)
                self.assertNotIn(signs, found)
            self.assertEqual(found, {})
            self.assertEqual(sort_of(kinds_of(family)), sort_of(kinds))

    def test_no_kind_is_left_out(self):
        source = random.Random(13)
        for family in each_family(source, 10):
            kinds = dict(kinds_of(family))
            for number in numbers_for(source, signs_of(family)):
                first = kinds[second_signs(family, number)]
                self.assertLessEqual((abs(first), first < 0), (abs(number), number < 0))


if __name__ == "__main__":
    unittest.main()
