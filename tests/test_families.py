"""Promise 6: family_error and signs_at."""

import copy
import unittest

from whichheld.families import family_error, signs_at
from kit import BIG, ODD_VALUES, deep_list, deep_tuple, nest, sort_of

PAY = (("pay", "n"),)
TESTED = (("if", ("rest", "n", 2, 0), (), ()),)


class Kit(unittest.TestCase):
    def check(self, value, wanted):
        kept = copy.deepcopy(value)
        self.assertEqual(sort_of(family_error(value)), sort_of(wanted), value)
        self.assertEqual(sort_of(value), sort_of(kept))


class FamilyErrorTest(Kit):
    def test_the_example(self):
        self.assertEqual(
            [family_error(((), (("pay", "n"),))), family_error(()), family_error(((), (("pay", 100),))), signs_at(((), (("pay", "n"),), (("pay", 3),)), -5)],
            [None, (None, 'many'), (1, (0, 'statement')), (0, -1, 1)])

    def test_families(self):
        for size in range(1, 6):
            self.check((PAY,) * size, None)
            self.check(((),) * size, None)
        self.check((PAY, (), TESTED * 2, nest(3, PAY), PAY), None)

    def test_no_tuples(self):
        for value in (*ODD_VALUES, [PAY], [], {0: PAY}, deep_list(20), "family", [PAY] * 9):
            if not isinstance(value, tuple):
                self.check(value, (None, "family"))

    def test_too_few_and_too_many(self):
        self.check((), (None, "many"))
        for size in (6, 7, 100):
            self.check((PAY,) * size, (None, "many"))

    def test_many_ahead_of_its_items(self):
        self.check((None,) * 6, (None, "many"))
        self.check((PAY,) * 5 + (7,), (None, "many"))

    def test_items_that_are_no_programs(self):
        for value in ODD_VALUES:
            if not isinstance(value, tuple):
                self.check((value,), (0, (None, "program")))
                self.check((PAY, PAY, value, PAY), (2, (None, "program")))
        self.check((deep_list(18),), (0, (None, "program")))
        self.check((deep_tuple(18),), (0, (0, "statement")))

    def test_each_error_of_a_program(self):
        for program, error in (
                ([], (None, "program")), (nest(5, PAY), (4, "nest")), ((("pay", "n"), None), (1, "statement")),
                ((("stop",),) * 25, (None, "places")), ((("repeat", 8, (("stop",),) * 4),), (None, "weight")),
                (TESTED * 3, (None, "rests")), ((("if", ("less", "n", 0), (), ()),) * 3, (None, "comparings"))):
            for at in range(5):
                self.check((PAY,) * at + (program,) + (PAY,) * (4 - at), (at, error))

    def test_the_first_of_several(self):
        self.check((PAY, TESTED * 3, None), (1, (None, "rests")))
        self.check((PAY, None, TESTED * 3), (1, (None, "program")))

    def test_a_program_is_no_family(self):
        self.check(PAY, (0, (0, "statement")))
        self.check((("stop",),) * 6, (None, "many"))
        self.check((("stop",),), (0, (0, "statement")))

    def test_the_largest_values(self):
        self.check(((("stop",),) * 1300,), (0, (None, "places")))
        self.check((None,) * 3999, (None, "many"))


class SignsAtTest(unittest.TestCase):
    def test_signs(self):
        family = (PAY, (), (("pay", ("minus", 2, "n")),), TESTED, (("pay", -7),))
        for number, wanted in ((0, (0, 0, 1, 0, -1)), (1, (1, 0, 1, 0, -1)), (2, (1, 0, 0, 0, -1)),
                               (3, (1, 0, -1, 0, -1)), (-1, (-1, 0, 1, 0, -1)), (BIG, (1, 0, -1, 0, -1)),
                               (1 - 10 ** 60, (-1, 0, 1, 0, -1))):
            self.assertEqual(sort_of(signs_at(family, number)), sort_of(wanted))

    def test_equal_programs_and_one_alone(self):
        self.assertEqual(signs_at((PAY, PAY), 5), (1, 1))
        self.assertEqual(sort_of(signs_at((PAY,), -5)), sort_of((-1,)))
        self.assertEqual(signs_at(((),), 5), (0,))


if __name__ == "__main__":
    unittest.main()
