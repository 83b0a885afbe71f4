"""Promise 8: heard_error and left; promise 2 (e)."""

import copy
import itertools
import random
import unittest

from whichheld.hearing import heard_error, left
from fars import FAR_THREE
from heavies import FAR_ZERO, PAY, STOP, each_family
from kit import BIG, ODD_VALUES, deep_list, deep_tuple, sort_of
from makers import second_signs

LESS = (("pay", ("minus", "n", 2)),)
FAMILY = (PAY, LESS, ())
NO_PAIRS = (
    *ODD_VALUES, (), (1,), (1, 1, 1), (1, 2), (1, -2), (1, BIG), (1, None), (None, 1), ("1", 1), (1, "1"), (1, "+"),
    (True, 1), (False, 0), (1, True), (1, False), (True, True), [1, 1], {1: 1}, ((1,), 1), (1, (1,)), (1, [1]),
    ([], 0), ({}, 0), (1, 1, None), ((1, 1),), deep_list(18), deep_tuple(18), PAY, STOP)


class HeardErrorTest(unittest.TestCase):
    def check(self, value, wanted):
        kept = copy.deepcopy(value)
        self.assertEqual(sort_of(heard_error(value)), sort_of(wanted), value)
        self.assertEqual(sort_of(value), sort_of(kept))

    def test_what_was_heard(self):
        for value in ((), ((0, 0),), ((1, -1), (1, 0), (1, 1)), ((BIG, 1), (-BIG, -1), (10 ** 60 - 1, 0)),
                      ((FAR_ZERO, 0),), ((5, 1),) * 40, tuple([(number, number % 3 - 1) for number in range(40)])):
            self.check(value, None)

    def test_no_tuples(self):
        for value in (*ODD_VALUES, [(1, 1)], [], {(1, 1): 1}, {1: 1}, "heard", deep_list(20), [(1, 1)] * 41):
            if not isinstance(value, tuple):
                self.check(value, (None, "heard"))

    def test_items_that_are_no_pairs(self):
        for value in NO_PAIRS:
            for at in (0, 1, 5, 39):
                heard = ((1, 1),) * at + (value,) + ((0, 0),) * (39 - at)
                self.check(heard, (at, "pair"))
                self.check(heard[:at + 1], (at, "pair"))

    def test_the_first_of_several(self):
        self.check(((1, 1), None, (1, True), 7), (1, "pair"))
        self.check((7, None), (0, "pair"))
        self.check((1, 1), (0, "pair"))
        self.check((1, 0), (0, "pair"))

    def test_40_and_41(self):
        self.check(((1, 1),) * 40, None)
        for many in (41, 42, 100, 1333):
            self.check(((1, 1),) * many, (None, "many"))

    def test_pairs_ahead_of_many(self):
        self.check(((1, 1),) * 41 + ((1, 2),), (41, "pair"))
        self.check(((1, 1),) * 40 + (None,), (40, "pair"))
        self.check((None,) + ((1, 1),) * 40, (0, "pair"))
        self.check((None,) * 3999, (0, "pair"))


class LeftTest(unittest.TestCase):
    def check(self, family, heard, lies, wanted):
        kept = copy.deepcopy((family, heard))
        self.assertEqual(sort_of(left(family, heard, lies)), sort_of(wanted), (family, heard, lies))
        self.assertEqual((family, heard), kept)

    def test_nothing_heard(self):
        for lies in (0, 1):
            self.check(FAMILY, (), lies, (0, 1, 2))
            self.check((PAY,), (), lies, (0,))

    def test_no_lie(self):
        for heard, wanted in (
                (((1, 1),), (0,)), (((1, -1),), (1,)), (((1, 0),), (2,)), (((5, 1),), (0, 1)), (((-5, -1),), (0, 1)),
                (((0, 0),), (0, 2)), (((2, 0),), (1, 2)), (((5, -1),), ()), (((0, 0), (2, 0)), (2,)),
                (((5, 1), (1, 1)), (0,)), (((1, 1), (1, 0)), ()), (((5, 1),) * 40, (0, 1)), (((5, 1),) * 39 + ((1, 0),), ())):
            self.check(FAMILY, heard, 0, wanted)

    def test_one_lie(self):
        for heard, wanted in (
                (((1, 1),), (0, 1, 2)), (((1, 1), (1, 1)), (0,)), (((1, 1), (1, -1)), (0, 1)), (((1, 1), (1, 0), (1, -1)), ()),
                (((5, 1),) * 40, (0, 1)), (((5, 1),) * 39 + ((1, 0),), (0, 1)), (((5, 1), (1, 0), (1, 0)), (2,)),
                (((5, -1), (5, -1)), ()), (((0, 0), (2, 0), (2, 0)), (1, 2)), (((0, 0), (2, 0), (2, 1)), (0, 2))):
            self.check(FAMILY, heard, 1, wanted)

    def test_the_same_number_several_times(self):
        for many in range(1, 20):
            heard = ((3, 1),) * many + ((3, 0),)
            self.check((PAY, ()), heard, 0, ())
            self.check((PAY, ()), heard, 1, (0, 1) if many == 1 else (0,))

    def test_alike_ones_are_left_together(self):
        family = (PAY, (("pay", ("times", 2, "n")),), (), PAY, (STOP, *PAY))
        self.check(family, ((4, 1),), 0, (0, 1, 3))
        self.check(family, ((4, 0),), 0, (2, 4))
        self.check(family, ((4, 0), (4, 0)), 1, (2, 4))

    def test_far_from_0(self):
        for shown, index in ((0, 0), (1, 1), (-1, 2)):
            self.check(FAR_THREE, ((FAR_ZERO, shown),), 0, (index,))
            self.check(FAR_THREE, ((FAR_ZERO, shown), (FAR_ZERO + 1, 1)), 0, (index,))
            self.check(FAR_THREE, ((FAR_ZERO, shown), (FAR_ZERO - 1, 1)), 0, ())
            self.check(FAR_THREE, ((FAR_ZERO, shown), (FAR_ZERO - 1, 1)), 1, (index,))
            self.check(FAR_THREE, ((FAR_ZERO, shown),), 1, (0, 1, 2))

    def test_by_counting(self):
        source = random.Random(41)
        for family in each_family(source, 20):
            for _ in range(6):
                numbers = [source.choice((0, 1, source.randint(-50, 50), source.randint(-BIG, BIG))) for _ in range(6)]
                box = source.randrange(len(family))
                heard = [(number, second_signs(family, number)[box]) for number in numbers[:source.randrange(7)]]
                for _ in range(source.randrange(3)):
                    heard.insert(0, (source.choice(numbers), source.choice((-1, 0, 1))))
                rows = [(second_signs(family, number), shown) for number, shown in heard]
                wrong = [sum(signs[at] != shown for signs, shown in rows) for at in range(len(family))]
                for lies in (0, 1):
                    self.check(family, tuple(heard), lies, tuple([at for at, many in enumerate(wrong) if many <= lies]))

    def test_the_box_is_left_however_it_lies(self):
        source = random.Random(42)
        for family in each_family(source, 6):
            numbers = [source.randint(-9, 9) for _ in range(5)]
            for box, lie in itertools.product(range(len(family)), range(-1, 5)):
                heard = [(number, second_signs(family, number)[box]) for number in numbers]
                if lie >= 0:
                    number, shown = heard[lie]
                    heard[lie] = (number, (shown + 2) % 3 - 1)
                self.assertEqual(box in left(family, tuple(heard), 0), lie < 0)
                self.assertIn(box, left(family, tuple(heard), 1))


if __name__ == "__main__":
    unittest.main()
