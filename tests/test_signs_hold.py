"""Promise 7: signs_hold."""

import copy
import random
import unittest

from whichheld.tables import signs_hold, signs_of
from heavies import FAR, FAR_ZERO, HEAVY, each_family, rows_about
from kit import BIG, ODD_VALUES, deep_list, deep_tuple, sort_of
from makers import random_family, second_signs

FAMILY = ((("pay", "n"),), (("pay", ("minus", "n", 2)),))
ROWS = ((0, 1, None, -1, (-1, -1)), (0, 1, 0, 0, (0, -1)), (0, 1, 1, 1, (1, -1)),
        (0, 1, 2, 2, (1, 0)), (0, 1, 3, None, (1, 1)))
ODD = ((("if", ("rest", "n", 2, 1), (("pay", 1),), ()),),)
ODD_ROWS = ((0, 2, None, None, (0,)), (1, 2, None, None, (1,)))
PLAIN = ((),)
ALL = (0, 1, None, None, (0,))


def cut(row, bound):
    """The row in two: up to the bound, and from there on; only what has an integer."""
    rest, by, low, high, signs = row
    ends = ((low, bound if high is None else min(high, bound)),
            (bound + 1 if low is None else max(low, bound + 1), high))
    return [(rest, by, *end, signs) for end in ends if has_any(rest, by, *end)]


def has_any(rest, by, low, high):
    """Whether an integer has this rest from low to high."""
    return low is None or high is None or high - (high - rest) % by >= low


def by_period(row, times):
    """The row in as many rows with as many times its period; only what has an integer."""
    rest, by, low, high, signs = row
    rows = [(rest + by * at, by * times, low, high, signs) for at in range(times)]
    return [found for found in rows if has_any(*found[:4])]


def chain(base, steps, low, high, signs):
    """Rows of ever greater periods, up to base ** steps, that are about all integers from low to high."""
    rows, rest, by = [], 0, 1
    for step in range(steps):
        rows.extend([(rest + by * at, by * base, low, high, signs) for at in range(base) if at != step % base])
        rest, by = rest + by * (step % base), by * base
    return tuple([row for row in (*rows, (rest, by, low, high, signs)) if has_any(*row[:4])])


def with_row(rows, at, *others):
    """The rows with others for the one at this index."""
    return rows[:at] + others + rows[at + 1:]


class Kit(unittest.TestCase):
    def check(self, family, value, wanted):
        kept = copy.deepcopy((family, value))
        self.assertIs(signs_hold(family, value), wanted, (family, value))
        self.assertEqual(sort_of((family, value)), sort_of(kept))


class RightTablesTest(Kit):
    def test_the_document_example(self):
        self.check(FAMILY, ROWS, True)
        self.check(FAMILY, ROWS[::-1], True)
        self.check(ODD, ODD_ROWS, True)
        self.check(PLAIN, (ALL,), True)

    def test_another_order(self):
        source = random.Random(14)
        for family in each_family(source, 4):
            rows = list(signs_of(family))
            source.shuffle(rows)
            self.check(family, tuple(rows), True)

    def test_cut_at_other_bounds(self):
        for at, row in enumerate(ROWS):
            for bound in (-BIG, -1000, -3, -2, -1, 0, 1, 2, 3, 4, 5, BIG):
                self.check(FAMILY, with_row(ROWS, at, *cut(row, bound)), True)

    def test_bounds_that_lie_between_the_integers_of_a_row(self):
        others = ((0, 4, None, None, (0,)), (1, 2, None, None, (0,)), (2, 4, None, 9, (0,)), (2, 4, 11, None, (0,)))
        for low in range(4, 13):
            for high in range(4, 17):
                self.check(PLAIN, (*others, (2, 4, low, high, (0,))), 6 < low <= 10 <= high < 14)
        self.check(PLAIN, others, False)

    def test_other_periods(self):
        for times in (1, 2, 3, 4, 7, 60):
            for at, row in enumerate(ROWS):
                self.check(FAMILY, with_row(ROWS, at, *by_period(row, times)), True)
            for at, row in enumerate(ODD_ROWS):
                self.check(ODD, with_row(ODD_ROWS, at, *by_period(row, times)), True)

    def test_cut_and_divided_at_random(self):
        source = random.Random(15)
        for family in each_family(source, 4):
            rows = list(signs_of(family))
            for _ in range(30):
                at = source.randrange(len(rows))
                if source.random() < 0.5:
                    parts = cut(rows[at], source.randint(-10 ** source.randrange(1, 9), 10 ** source.randrange(1, 9)))
                else:
                    parts = by_period(rows[at], source.choice((2, 3, 5, 7, 11)))
                if all(part[1] <= 10 ** 6 for part in parts):
                    rows[at:at + 1] = parts
            self.check(family, tuple(rows), True)
            at = source.randrange(len(rows))
            self.check(family, tuple(rows[:at] + rows[at + 1:]), False)
            self.check(family, (*rows, rows[at]), False)

    def test_great_periods_side_by_side(self):
        twos, threes = chain(2, 19, None, 0, (0,)), chain(3, 12, 1, None, (0,))
        self.assertIn(2 ** 19, [row[1] for row in twos])
        self.assertIn(3 ** 12, [row[1] for row in threes])
        self.check(PLAIN, twos + threes, True)
        self.check(PLAIN, chain(2, 19, None, None, (0,)), True)
        self.check(PLAIN, chain(3, 12, None, None, (0,)), True)
        for rows in (twos + threes, chain(2, 19, None, None, (0,)), chain(3, 12, None, 5, (0,)) + ((0, 1, 6, None, (0,)),)):
            self.check(PLAIN, rows, True)
            for at, row in enumerate(rows):
                self.check(PLAIN, rows[:at] + rows[at + 1:], False)
                self.check(PLAIN, rows + (row,), False)
                self.check(PLAIN, with_row(rows, at, (*row[:4], (1,))), False)
                if row[1] > 1:
                    self.check(PLAIN, with_row(rows, at, ((row[0] + 1) % row[1], *row[1:])), False)

    def test_great_periods_in_one_half_each(self):
        even = [(2 * rest, 2 * by, low, high, signs) for rest, by, low, high, signs in chain(2, 18, None, None, (0,))]
        odd = [(2 * rest + 1, 2 * by, low, high, signs) for rest, by, low, high, signs in chain(3, 11, None, None, (1,))]
        rows = tuple(even + odd)
        self.check(ODD, rows, True)
        self.check(ODD, with_row(rows, len(rows) - 1, (*rows[-1][:4], (0,))), False)
        self.check(ODD, with_row(rows, len(even) - 1, (*rows[len(even) - 1][:4], (1,))), False)

    def test_great_periods_that_cross(self):
        # 2 ** 19 and 3 ** 12 leave all pairs of rests, so the two rows share integers, but only far out.
        one, other = (5, 2 ** 19, 0, 10 ** 7, (0,)), (6, 3 ** 12, 0, 10 ** 7, (0,))
        shared = [n for n in range(5, 10 ** 7 + 1, 2 ** 19) if n % 3 ** 12 == 6]
        self.assertEqual(shared, [])
        rows = [one, other]
        taken = sorted([*range(5, 10 ** 7 + 1, 2 ** 19), *range(6, 10 ** 7 + 1, 3 ** 12)])
        for low, high in zip([None, *[n + 1 for n in taken]], [*[n - 1 for n in taken], None]):
            if has_any(0, 1, low, high):
                rows.append((0, 1, low, high, (0,)))
        self.check(PLAIN, tuple(rows), True)
        for at in range(len(rows)):
            self.check(PLAIN, tuple(rows[:at] + rows[at + 1:]), False)

    def test_a_shared_integer_far_out(self):
        # Both rows are about one integer alone, which both periods reach for the first time behind 10 ** 11.
        number = 5 + 999 * 10 ** 6 * 997
        rows = [(number % 10 ** 6, 10 ** 6, None, None, (0,)), (number % 999999, 999999, number, number, (0,))]
        by, rest = 1, number % 10 ** 6
        for base in (2,) * 6 + (5,) * 6:
            rows.extend([(rest % by + by * at, by * base, None, None, (0,)) for at in range(base)
                         if rest % by + by * at != rest % (by * base)])
            by *= base
        self.check(PLAIN, (rows[0], *rows[2:]), True)
        self.check(PLAIN, tuple(rows), False)
        hole = [*cut(rows[0], number - 1)[:1], *cut(rows[0], number)[1:]]
        self.check(PLAIN, (*hole, *rows[1:]), True)
        self.check(PLAIN, (*hole, *rows[2:]), False)
        for other in (number - 1, number + 1, number - 999999, number + 999999):
            moved = (other % 999999, 999999, other, other, (0,))
            self.check(PLAIN, (*hole, moved, *rows[2:]), False)

    def test_the_greatest_period(self):
        rest, by, rows = 123456, 1, []
        for base in (2,) * 6 + (5,) * 6:
            rows.extend([(rest % by + by * at, by * base, None, None, (0,)) for at in range(base)
                         if rest % by + by * at != rest % (by * base)])
            by *= base
        self.check(PLAIN, (*rows, (rest, 10 ** 6, None, None, (0,))), True)
        self.check(PLAIN, (*rows, (rest, 10 ** 6 + 1, None, None, (0,))), False)
        self.check(PLAIN, (*rows, (rest, 2 * 10 ** 6, None, None, (0,)),
                           (rest + 10 ** 6, 2 * 10 ** 6, None, None, (0,))), False)

    def test_far_from_0(self):
        rows = ((0, 1, None, FAR_ZERO - 1, (-1,)), (0, 1, FAR_ZERO, FAR_ZERO, (0,)), (0, 1, FAR_ZERO + 1, None, (1,)))
        self.check((FAR,), rows, True)
        self.check((FAR,), (rows[0], (FAR_ZERO % 977, 977, FAR_ZERO - 976, FAR_ZERO + 976, (0,)), rows[2]), True)
        self.check((FAR,), ((0, 1, None, FAR_ZERO, (-1,)), rows[2]), False)
        self.check((FAR,), (rows[0], (0, 1, FAR_ZERO, None, (1,))), False)
        self.check((FAR,), (rows[0], (0, 1, FAR_ZERO, FAR_ZERO, (1,)), rows[2]), False)
        self.check((FAR,), ((0, 1, None, FAR_ZERO - 2, (-1,)), (0, 1, FAR_ZERO - 1, FAR_ZERO, (0,)), rows[2]), False)


class WrongTablesTest(Kit):
    def test_a_row_left_out_or_twice(self):
        for rows, family in ((ROWS, FAMILY), (ODD_ROWS, ODD), ((ALL,), PLAIN)):
            for at, row in enumerate(rows):
                self.check(family, rows[:at] + rows[at + 1:], False)
                self.check(family, rows + (row,), False)
                self.check(family, (row,) + rows, False)

    def test_another_sign(self):
        for family in (FAMILY, HEAVY[0][:2], HEAVY[3]):
            rows = ROWS if family == FAMILY else signs_of(family)
            for at in (*range(0, len(rows), 11), *range(min(5, len(rows)))):
                for index, sign in enumerate(rows[at][4]):
                    for other in {-1, 0, 1} - {sign}:
                        signs = rows[at][4][:index] + (other,) + rows[at][4][index + 1:]
                        self.check(family, with_row(rows, at, (*rows[at][:4], signs)), False)

    def test_fewer_and_more_signs(self):
        for signs in ((), (-1,), (-1, -1, -1), (-1, -1, 0)):
            self.check(FAMILY, with_row(ROWS, 0, (0, 1, None, -1, signs)), False)
        self.check(PLAIN, ((0, 1, None, None, ()),), False)
        self.check(PLAIN, ((0, 1, None, None, (0, 0)),), False)

    def test_a_moved_bound(self):
        source = random.Random(16)
        for family in (FAMILY, *[random_family(source, 3) for _ in range(15)]):
            rows = signs_of(family)
            for at, (rest, by, low, high, signs) in enumerate(rows):
                step = source.choice((by, -by, 2 * by))
                for other in ((rest, by, low if low is None else low + step, high, signs),
                              (rest, by, low, high if high is None else high + step, signs)):
                    if other != rows[at]:
                        self.check(family, with_row(rows, at, other), False)

    def test_a_bound_for_none_and_none_for_a_bound(self):
        self.check(FAMILY, with_row(ROWS, 0, (0, 1, -BIG, -1, (-1, -1))), False)
        self.check(FAMILY, with_row(ROWS, 4, (0, 1, 3, BIG, (1, 1))), False)
        for at, (rest, by, low, high, signs) in enumerate(ROWS):
            for other in ((rest, by, None, high, signs), (rest, by, low, None, signs), (rest, by, None, None, signs)):
                if other != ROWS[at]:
                    self.check(FAMILY, with_row(ROWS, at, other), False)

    def test_another_period_or_rest(self):
        self.check(PLAIN, ((0, 2, None, None, (0,)),), False)
        self.check(PLAIN, ((0, 2, None, None, (0,)), (0, 2, None, None, (0,))), False)
        self.check(PLAIN, ((0, 2, None, None, (0,)), (1, 3, None, None, (0,))), False)
        self.check(PLAIN, ((0, 2, None, None, (0,)), (1, 4, None, None, (0,))), False)
        self.check(PLAIN, ((0, 2, None, None, (0,)), (1, 4, None, None, (0,)), (3, 8, None, None, (0,))), False)
        self.check(PLAIN, ((0, 2, None, None, (0,)), (1, 4, None, None, (0,)), (3, 4, None, None, (0,))), True)
        self.check(ODD, ODD_ROWS[::-1], True)
        self.check(ODD, ((1, 2, None, None, (0,)), (0, 2, None, None, (1,))), False)

    def test_rows_that_make_up_for_one_another(self):
        # As many integers as there are, but some in two rows and some in none.
        self.check(PLAIN, ((0, 2, None, None, (0,)), (0, 4, None, None, (0,)), (1, 4, None, None, (0,))), False)
        self.check(PLAIN, ((0, 1, None, 0, (0,)), (0, 1, 0, 4, (0,)), (0, 1, 6, None, (0,))), False)
        self.check(PLAIN, ((0, 1, None, 0, (0,)), (0, 1, 2, 9, (0,)), (0, 1, 9, None, (0,))), False)
        self.check(PLAIN, ((0, 2, None, 0, (0,)), (0, 2, 2, None, (0,)), (0, 2, None, None, (0,))), False)
        self.check(PLAIN, ((0, 2, None, 100, (0,)), (1, 2, None, 100, (0,)), (0, 3, 101, None, (0,)),
                           (1, 3, 101, None, (0,)), (1, 3, 104, None, (0,))), False)

    def test_an_integer_twice_and_another_one_not(self):
        # The rests by 4 and by 6 meet at each multiple of 12, so the periods share a factor.
        outer = ((0, 1, None, -1, (0,)), (0, 1, 24, None, (0,)))
        for rest in (0, 2):
            for low, high in ((0, 23), (5, 14), (8, 8), (20, 20)):
                fours = [n for n in range(low, high + 1) if n % 4 == rest]
                for other in range(0, 6, 2):
                    sixes = [n for n in range(24) if n % 6 == other]
                    if not fours or not sixes:
                        continue
                    shared = [n for n in fours if n in sixes]
                    free = [n for n in range(24) if n not in fours + sixes]
                    rows = (*outer, (rest, 4, low, high, (0,)), (other, 6, 0, 23, (0,)))
                    singles = [(0, 1, n, n, (0,)) for n in free[len(shared):]]
                    self.check(PLAIN, (*rows, *singles), not shared)

    def test_a_gap_between_the_halves(self):
        below, above = (0, 1, None, -1, (0,)), (0, 1, 1, None, (0,))
        self.check(PLAIN, (below, above), False)
        self.check(PLAIN, (below, (0, 1, 0, 0, (0,)), above), True)
        self.check(PLAIN, (below, (0, 7, -6, 6, (0,)), above), True)
        self.check(PLAIN, (below, (0, 7, -7, 6, (0,)), above), False)
        self.check(PLAIN, (below, (0, 7, -6, 7, (0,)), above), False)
        self.check(PLAIN, (below,), False)
        self.check(PLAIN, (above,), False)
        self.check(PLAIN, ((0, 1, -BIG, BIG, (0,)),), False)
        self.check(PLAIN, ((0, 2, None, 0, (0,)), (1, 2, None, 0, (0,)), (0, 2, 1, None, (0,))), False)
        self.check(PLAIN, ((0, 2, None, 0, (0,)), (0, 2, 1, None, (0,)), (1, 2, 1, None, (0,))), False)


class WrongFormsTest(Kit):
    def test_any_value(self):
        for value in (*ODD_VALUES, deep_list(20), deep_tuple(20), (None,) * 3999, FAMILY, FAR, ROWS[0],
                      signs_of, list(ROWS), {"rows": ROWS}, {row: True for row in ROWS}):
            if value != signs_of:
                self.check(FAMILY, value, False)
                self.check(PLAIN, value, False)

    def test_items_that_are_no_rows(self):
        for value in (*ODD_VALUES, deep_list(18), deep_tuple(18), list(ROWS[0]), ROWS[0][:4], ROWS[0] + (1,), ROWS):
            self.check(FAMILY, with_row(ROWS, 0, value), False)
            self.check(FAMILY, ROWS + (value,), False)
            self.check(PLAIN, (ALL, value), False)

    def test_wrong_parts_of_a_row(self):
        for at in range(5):
            for value in (*ODD_VALUES, (), (None,), deep_list(17), deep_tuple(17), (0, 0), [0]):
                right = {0: (0,), 1: (1,), 2: (None,), 3: (None,), 4: ()}[at]
                if [other for other in right if sort_of(other) == sort_of(value)]:
                    continue
                if at == 4 and value == (0,):
                    continue
                self.check(PLAIN, ((*ALL[:at], value, *ALL[at + 1:]),), False)

    def test_bools_for_integers(self):
        self.check(PLAIN, ((False, 1, None, None, (0,)),), False)
        self.check(PLAIN, ((0, True, None, None, (0,)),), False)
        self.check(PLAIN, ((0, 1, None, None, (False,)),), False)
        self.check(ODD, ((0, 2, None, None, (0,)), (1, 2, None, None, (True,))), False)
        self.check(ODD, ((0, 2, None, None, (0,)), (True, 2, None, None, (1,))), False)
        self.check(PLAIN, ((0, 1, None, 0, (0,)), (0, 1, True, None, (0,))), False)
        self.check(PLAIN, ((0, 1, None, False, (0,)), (0, 1, 1, None, (0,))), False)
        self.check(PLAIN, ((0, 1, None, 0, (0,)), (0, 1, 1, None, (0,))), True)

    def test_bools_beside_integers(self):
        for signs in ((1, True), (True, 1), (True, True)):
            self.check(FAMILY, with_row(ROWS, 4, (*ROWS[4][:4], signs)), False)
        for signs in ((1, False), (True, 0), (True, False)):
            self.check(FAMILY, with_row(ROWS, 3, (*ROWS[3][:4], signs)), False)

    def test_signs_in_a_list(self):
        self.check(PLAIN, ((0, 1, None, None, [0]),), False)
        self.check(PLAIN, ([0, 1, None, None, (0,)],), False)
        self.check(PLAIN, [ALL], False)

    def test_rests_and_periods_out_of_range(self):
        for rest, by in ((1, 1), (-1, 1), (0, 0), (0, -1), (-1, -1), (2, 2), (1, 0), (BIG, 1), (0, BIG), (0, -BIG)):
            self.check(PLAIN, ((rest, by, None, None, (0,)),), False)
        self.check(ODD, ((0, 2, None, None, (0,)), (-1, 2, None, None, (1,))), False)
        self.check(ODD, ((0, 2, None, None, (0,)), (3, 2, None, None, (1,))), False)

    def test_rows_about_nothing(self):
        for row in ((0, 1, 1, 0, (0,)), (0, 1, BIG, -BIG, (0,)), (0, 7, 1, 6, (0,)), (3, 7, 4, 9, (0,)),
                    (1, 10 ** 6, 2, 10 ** 6, (0,))):
            self.check(PLAIN, (ALL, row), False)

    def test_signs_that_are_none(self):
        for sign in (2, -2, 99, BIG, None, "0", (), (0,), [0]):
            self.check(PLAIN, ((0, 1, None, None, (sign,)),), False)


class RandomTest(Kit):
    def some_rows(self, source):
        """Rows that are about each integer once, most with a period that divides 36, or some of them changed."""
        rows = [ALL]
        for _ in range(source.randrange(6)):
            at = source.randrange(len(rows))
            parts = cut(rows[at], source.randint(-6, 6)) if source.random() < 0.5 else by_period(rows[at], 2)
            parts = by_period(rows[at], 3) if source.random() < 0.2 else parts
            if all(36 % part[1] == 0 for part in parts):
                rows[at:at + 1] = parts
        for _ in range(source.choice((0, 1, 1, 2))):
            at = source.randrange(len(rows))
            rest, by, low, high, signs = rows[at]
            rows[at] = source.choice((
                (source.randrange(by), by, low, high, signs), (rest, by, low and low + by, high, signs),
                (rest, by, low, high and high - by, signs), (rest, by, low and low - 1, high, signs),
                (rest, by, low, high and high + 1, signs), rows[source.randrange(len(rows))]))
        source.shuffle(rows)
        return tuple(rows)

    def test_what_is_accepted_is_so(self):
        source = random.Random(17)
        counts = {True: 0, False: 0}
        for _ in range(3000):
            rows = self.some_rows(source)
            wanted = all(has_any(*row[:4]) for row in rows) and all(
                len(rows_about(rows, number)) == 1 for number in range(-60, 61))
            self.check(PLAIN, rows, wanted)
            counts[wanted] += 1
        self.assertGreater(min(counts.values()), 500)

    def mixed_rows(self, source):
        """Rows of several periods, with several bounds for each, that are about each integer once."""
        rows, taken = [(0, 1, None, -1, (0,)), (0, 1, 40, None, (0,))], []
        for _ in range(40):
            by = source.choice((2, 3, 4, 6))
            low, rest = source.randrange(40), source.randrange(by)
            high = min(39, low + source.randrange(30))
            numbers = [n for n in range(low, high + 1) if n % by == rest]
            if numbers and not [n for n in numbers if n in taken]:
                rows.append((rest, by, low, high, (0,)))
                taken.extend(numbers)
        return rows, taken, [(0, 1, n, n, (0,)) for n in range(40) if n not in taken]

    def test_one_integer_moved(self):
        source = random.Random(19)
        for _ in range(400):
            rows, taken, singles = self.mixed_rows(source)
            if not singles:
                continue
            self.check(PLAIN, tuple(source.sample(rows + singles, len(rows + singles))), True)
            for by in (1, 2, 3, 4, 5, 6):
                number = source.choice(taken)
                moved = rows + singles[1:] + [(number % by, by, number, number, (0,))]
                self.check(PLAIN, tuple(source.sample(moved, len(moved))), False)

    def test_signs_of_other_families(self):
        source = random.Random(18)
        for _ in range(150):
            family, other = random_family(source, 2), random_family(source, 2)
            rows = signs_of(other)
            numbers = [*range(-200, 201), *[bound for row in rows for bound in row[2:4] if bound is not None]]
            if any(second_signs(family, number) != second_signs(other, number) for number in numbers):
                self.check(family, rows, False)


if __name__ == "__main__":
    unittest.main()
