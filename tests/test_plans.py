"""Promise 9: tries, plan_of and plan_holds; promise 2 (c), (d)."""

import copy
import itertools
import random
import unittest

from whichheld.families import signs_at
from whichheld.hearing import left
from whichheld.plans import plan_holds, plan_of, tries
from whichheld.programs import contrary
from whichheld.tables import kinds_of
from whichheld.verdicts import kin, parted
from fars import FAR_THREE, STARS, STEPS, moved, single
from heavies import FAR, FAR_ZERO, HEAVY, PAY, STOP, each_family
from kit import BIG, ODD_VALUES, deep_list, deep_tuple, sort_of
from makers import random_family, second_signs

TWICE = (("pay", ("times", 2, "n")),)
THREE = (PAY, (("pay", ("minus", "n", 2)),), (("pay", ("plus", "n", 2)),))
SHOWN = (-1, 0, 1)


def are_alike(family, indexes):
    """Whether the programs at these indexes are alike."""
    return all(parted(family[indexes[0]], family[at]) is None for at in indexes)


def heard_by(family, number, box):
    """What a box with this program shows for the number."""
    return second_signs(family, number)[box]


def fewest(family, heard, lies):
    """The fewest tries, by a search with ever more of them over the wrong answers of each program."""
    numbers = [number for signs, number in kinds_of(family)]
    rows = [second_signs(family, number) for number in numbers]
    wrong = tuple([sum(heard_by(family, number, at) != shown for number, shown in heard) for at in range(len(family))])
    groups = {at: place for place, group in enumerate(kin(family)) for at in group}
    known = {}

    def settles(wrong, most):
        key = (wrong, most)
        if key not in known:
            open_ones = {groups[at] for at, many in enumerate(wrong) if many <= lies}
            known[key] = len(open_ones) <= 1 or most > 0 and any(
                all(settles(tuple([min(lies + 1, many + (sign != shown)) for many, sign in zip(wrong, row)]), most - 1)
                    for shown in SHOWN) for row in rows)
        return known[key]

    most = 0
    while not settles(wrong, most):
        most += 1
    return most


def tries_of(plan):
    """The tries of the plan."""
    return 0 if plan == () else 1 + max(tries_of(inner) for inner in plan[1:])


def replaced(plan, path, part):
    """The plan with another part at the end of the path, a tuple of indexes."""
    if not path:
        return part
    return plan[:path[0]] + (replaced(plan[path[0]], path[1:], part),) + plan[path[0] + 1:]


def part_at(plan, path):
    """What stands at the end of the path."""
    for at in path:
        plan = plan[at]
    return plan


def paths_of(plan, path=()):
    """The paths of all plans in the plan, itself included."""
    found = [path]
    for at in range(1, len(plan)):
        found.extend(paths_of(plan[at], path + (at,)))
    return found


def ends_of(plan, heard):
    """What was heard behind each way through the plan."""
    if plan == ():
        return [heard]
    return [end for shown, inner in zip(SHOWN, plan[1:]) for end in ends_of(inner, heard + ((plan[0], shown),))]


class Kit(unittest.TestCase):
    def check_tries(self, family, heard, lies, wanted):
        kept = copy.deepcopy((family, heard))
        self.assertEqual(sort_of(tries(family, heard, lies)), sort_of(wanted), (family, heard, lies))
        plan = plan_of(family, heard, lies)
        self.check_form(plan)
        self.assertEqual(tries_of(plan), wanted, (family, heard, lies))
        self.assertIs(plan_holds(family, heard, lies, wanted, plan), True)
        self.assertIs(plan_holds(family, heard, lies, wanted + 1, plan), True)
        self.assertIs(plan_holds(family, heard, lies, wanted - 1, plan), False)
        self.assertEqual(sort_of(plan_of(family, heard, lies)), sort_of(plan))
        self.assertEqual((family, heard), kept)

    def check_form(self, plan):
        self.assertIs(type(plan), tuple)
        self.assertIn(len(plan), (0, 4))
        if plan:
            self.assertIs(type(plan[0]), int)
            for inner in plan[1:]:
                self.check_form(inner)


class TriesTest(Kit):
    def test_nothing_to_try(self):
        for lies in (0, 1):
            for family in ((PAY,), (PAY, TWICE), ((),) * 5, (PAY, PAY, TWICE, PAY, PAY), (FAR, FAR_THREE[0])):
                self.check_tries(family, (), lies, 0)
                self.check_tries(family, ((3, 1), (3, 0)), lies, 0)
        self.check_tries(THREE, ((0, 0),), 0, 0)
        self.check_tries(THREE, ((0, 0), (0, 0)), 1, 0)
        self.check_tries((PAY, TWICE, ()), ((4, 1),), 0, 0)
        self.check_tries((PAY, TWICE, ()), ((4, 1), (4, 1)), 1, 0)

    def test_none_left(self):
        self.check_tries(THREE, ((0, 0), (0, 1)), 0, 0)
        self.check_tries(THREE, ((50, -1),), 0, 0)
        self.check_tries(THREE, ((50, -1), (50, 0)), 1, 0)
        self.check_tries(FAR_THREE, ((0, 1), (1, 1)), 1, 0)

    def test_no_lie(self):
        for family, wanted in (
                ((PAY, ()), 1), (THREE, 1), (STARS, 4), (STARS[:2], 1), (STARS[:3], 2), (STEPS[:2], 1), (STEPS[:3], 2),
                (STEPS, 3), (FAR_THREE, 1), ((PAY, (), contrary(PAY)), 1), ((*THREE, (), ()), 2),
                ((single(3), single(-3), (), (), single(3)), 2), ((single(3), single(3, -1), ()), 1)):
            self.check_tries(family, (), 0, wanted)

    def test_one_lie(self):
        for family, wanted in (((PAY, ()), 3), (THREE, 3), (STARS, 9), (STARS[:2], 3), (STARS[:3], 5),
                               (STEPS[:2], 3), (STEPS[:3], 5), (FAR_THREE, 3), ((FAR, FAR_THREE[1]), 3)):
            self.check_tries(family, (), 1, wanted)

    def test_behind_what_was_heard(self):
        for heard, none, one in (
                (((3, 0),), 3, 8), (((3, 0), (3, 0)), 3, 7), (((3, 1),), 0, 5), (((3, 1), (3, 1)), 0, 0),
                (((3, 1), (3, 0)), 0, 4), (((5, 0),), 4, 9), (((5, 1),), 0, 4), (((5, 1), (5, 1)), 0, 0),
                (((3, 1), (2, 1)), 0, 1), (((0, 0), (1, 0), (2, 0), (3, 0)), 0, 5)):
            self.check_tries(STARS, heard, 0, none)
            self.check_tries(STARS, heard, 1, one)

    def test_behind_a_wrong_answer(self):
        self.check_tries(THREE, ((0, 0),), 1, 2)
        self.check_tries(THREE, ((0, 0), (0, 1)), 1, 1)
        self.check_tries(THREE, ((50, 0),), 1, 1)
        self.check_tries(THREE, ((50, 1),) * 40, 1, 3)
        self.check_tries(FAR_THREE, ((FAR_ZERO, 0), (FAR_ZERO, 1)), 1, 1)

    def test_by_a_search(self):
        source = random.Random(51)
        for family in (*each_family(source, 14), *HEAVY):
            kinds = kinds_of(family)
            for lies in (0, 1):
                heard = []
                for _ in range(source.choice((0, 0, 1, 2, 4))):
                    heard.append((source.choice([source.choice(kinds)[1], source.randint(-20, 20)]), source.choice(SHOWN)))
                if source.random() < 0.5:
                    box = source.randrange(len(family))
                    heard = [(number, heard_by(family, number, box)) for number, shown in heard]
                self.check_tries(family, tuple(heard), lies, fewest(family, tuple(heard), lies))

    def test_families_of_five_that_need_many(self):
        source = random.Random(52)
        pool = [*STARS, *STEPS, *[single(number, shown) for number in (1, -4, 30) for shown in (1, -1)], PAY, (), *THREE]
        for _ in range(60):
            family = tuple(source.sample(pool, 5))
            for lies in (0, 1):
                self.check_tries(family, (), lies, fewest(family, (), lies))

    def test_another_order_the_contrary_and_moved_inputs(self):
        source = random.Random(53)
        for family in (STARS, THREE, *[random_family(source, 4) for _ in range(25)]):
            for lies in (0, 1):
                wanted = tries(family, (), lies)
                self.check_tries(tuple(source.sample(family, len(family))), (), lies, wanted)
                self.check_tries((*family[:4], family[0]), (), lies, tries(family[:4], (), lies))
                self.assertEqual(tries(tuple([contrary(program) for program in family]), (), lies), wanted)
                self.assertEqual(tries(tuple([moved(program, 17) for program in family]), (), lies), wanted)


class PlanOfTest(Kit):
    def test_each_way_ends_with_alike_ones(self):
        source = random.Random(54)
        for family in (THREE, STARS, STEPS, FAR_THREE, *HEAVY, *[random_family(source, size) for size in (2, 3, 4, 5) * 5]):
            for lies in (0, 1):
                for heard in ((), ((1, 1), (1, 0))):
                    for end in ends_of(plan_of(family, heard, lies), heard):
                        indexes = left(family, end, lies)
                        self.assertTrue(not indexes or are_alike(family, indexes), (family, end))

    def test_each_program_in_the_box_and_each_answer_wrong(self):
        source = random.Random(55)
        for family in (THREE, STARS, STEPS, FAR_THREE, *HEAVY, *[random_family(source, size) for size in (2, 3, 4, 5) * 4]):
            for lies in (0, 1):
                plan, most = plan_of(family, (), lies), tries(family, (), lies)
                for box in range(len(family)):
                    for lie, other in itertools.product(range(most + 1 if lies else 1), (1, 2)):
                        at, heard = plan, ()
                        while at != ():
                            shown = heard_by(family, at[0], box)
                            if lies and len(heard) == lie:
                                shown = (shown + 1 + other) % 3 - 1
                            heard += ((at[0], shown),)
                            at = at[shown + 2]
                        self.assertLessEqual(len(heard), most)
                        indexes = left(family, heard, lies)
                        self.assertIn(box, indexes)
                        self.assertTrue(are_alike(family, indexes))

    def test_the_simplest_plans(self):
        self.assertEqual(plan_of((PAY,), (), 0), ())
        self.assertEqual(plan_of(THREE, ((0, 0),), 0), ())
        self.assertEqual(plan_of(FAR_THREE, (), 0), (FAR_ZERO, (), (), ()))

    def test_more_tries_than_may_be_heard(self):
        heard = tuple([(5, 0)] * 40)
        self.check_tries(STARS, heard, 1, 9)
        self.check_tries(STARS, heard, 0, 4)


class PlanHoldsTest(Kit):
    def check(self, family, heard, lies, most, value, wanted):
        kept = copy.deepcopy(value)
        self.assertIs(plan_holds(family, heard, lies, most, value), wanted, (family, heard, lies, most, value))
        self.assertEqual(sort_of(value), sort_of(kept))

    def test_the_example(self):
        plan = (0, (), (), ())
        self.assertEqual(
            [tries(THREE, (), 0), plan_holds(THREE, (), 0, 1, plan), plan_holds(THREE, (), 1, 9, plan), tries(THREE, (), 1), tries(THREE, ((0, 0), (0, 0)), 1), plan_holds(THREE, (), 1, 3, plan_of(THREE, (), 1))],
            [1, True, False, 3, 0, True])

    def test_most(self):
        plan = (0, (), (), ())
        for most in (-BIG, -7, -1, 0, 1, 2, BIG):
            self.check(THREE, (), 0, most, plan, most >= 1)
            self.check(THREE, (), 0, most, (50, plan, plan, plan), most >= 2)
            self.check(THREE, (), 0, most, (50, (), (), plan), most >= 2)
            self.check((PAY,), (), 0, most, (), most >= 0)
            self.check(THREE, (), 0, most, (), False)

    def test_numbers_that_tell_nothing(self):
        plan = (0, (), (), ())
        for number in (-1, 0, 2, 7, BIG, -BIG, 10 ** 60 - 1, FAR_ZERO):
            self.check(THREE, (), 0, 1, (number, (), (), ()), number == 0)
            self.check(THREE, (), 0, 2, (number, plan, plan, plan), True)
            self.check(FAR_THREE, (), 0, 1, (number, (), (), ()), number == FAR_ZERO)

    def test_longer_plans(self):
        plan = (0, (), (), ())
        for _ in range(5):
            plan = (3, plan, plan, plan)
        self.check(THREE, (), 0, 6, plan, True)
        self.check(THREE, (), 0, 5, plan, False)
        self.check(THREE, (), 1, 99, plan, False)
        self.check((PAY,), (), 1, 6, plan, True)
        chain = ()
        for _ in range(18):
            chain = (1, (), (), chain)
        self.check((PAY, TWICE), (), 0, 18, chain, True)
        self.check((PAY, TWICE), (), 0, 17, chain, False)
        self.check((PAY, ()), (), 0, 18, chain, True)
        self.check((PAY, ()), (), 1, 99, chain, False)

    def test_a_branch_left_out(self):
        source = random.Random(56)
        for family in (THREE, STARS, STEPS, *[random_family(source, size) for size in (2, 3, 4, 5) * 3]):
            for lies in (0, 1):
                plan, most = plan_of(family, (), lies), tries(family, (), lies)
                for path in source.sample(paths_of(plan), min(40, len(paths_of(plan)))):
                    if part_at(plan, path) != ():
                        # Each try of a plan with the fewest is needed where something is left to be told apart.
                        self.check(family, (), lies, most, replaced(plan, path, ()), False)

    def test_branches_that_are_exchanged(self):
        source = random.Random(57)
        counts = {True: 0, False: 0}
        for family in (THREE, STARS, STEPS, *[random_family(source, size) for size in (3, 4, 5) * 8]):
            for lies in (0, 1):
                plan, most = plan_of(family, (), lies), tries(family, (), lies)
                for path in source.sample(paths_of(plan), min(12, len(paths_of(plan)))):
                    part = part_at(plan, path)
                    if part != ():
                        one, other = source.sample((1, 2, 3), 2)
                        parts = list(part)
                        parts[one], parts[other] = parts[other], parts[one]
                        value = replaced(plan, path, tuple(parts))
                        wanted = all(not left(family, end, lies) or are_alike(family, left(family, end, lies))
                                     for end in ends_of(value, ()))
                        self.check(family, (), lies, most + 9, value, wanted)
                        counts[wanted] += 1
        self.assertGreater(min(counts.values()), 10)

    def test_other_numbers(self):
        source = random.Random(58)
        counts = {True: 0, False: 0}
        for family in (THREE, STARS, STEPS, *[random_family(source, size) for size in (2, 3, 4, 5) * 6]):
            for lies in (0, 1):
                plan, most = plan_of(family, ((0, 0),), lies), tries(family, ((0, 0),), lies)
                for path in source.sample(paths_of(plan), min(10, len(paths_of(plan)))):
                    if part_at(plan, path) != ():
                        value = replaced(plan, path + (0,), source.randint(-9, 9))
                        wanted = all(not left(family, end, lies) or are_alike(family, left(family, end, lies))
                                     for end in ends_of(value, ((0, 0),)))
                        self.check(family, ((0, 0),), lies, most, value, wanted)
                        counts[wanted] += 1
        self.assertGreater(min(counts.values()), 10)

    def test_parts_of_another_form(self):
        plan = plan_of(STARS[:3], (), 0)
        wrong = (*ODD_VALUES, (0,), (0, ()), (0, (), ()), (0, (), (), (), ()), ((), (), (), ()), (0, (), (), []),
                 [0, (), (), ()], (True, (), (), ()), (None, (), (), ()), ("0", (), (), ()), ((),), ((), ()), deep_list(17),
                 deep_tuple(9), (0, None, (), ()), (0, (), 0, ()), (0, (), (), False), (False, (), (), ()))
        for value in wrong:
            self.check(STARS[:3], (), 0, 99, value, False)
            self.check((PAY,), (), 0, 99, value, False)
            for path in paths_of(plan):
                self.check(STARS[:3], (), 0, 99, replaced(plan, path, value), False)

    def test_the_form_below_a_branch_that_nothing_is_left_behind(self):
        for value, wanted in (((), True), ((7, (), (), ()), True), ((7, (), (), None), False), ([], False), (None, False),
                              ((True, (), (), ()), False), ((7, (), ()), False), ((7, (7, (), (), [])) + ((),) * 2, False)):
            # The box cannot show -1 or 0 for 50 without a lie.
            self.check(THREE, (), 0, 9, (50, value, (), (0, (), (), ())), wanted)
            self.check(THREE, (), 0, 9, (50, (), value, (0, (), (), ())), wanted)
            self.check(THREE, ((50, -1),), 0, 9, value, wanted)
            self.check(THREE, ((50, -1),), 0, 9, (0, value, value, value), wanted)

    def test_the_tries_below_a_branch_that_nothing_is_left_behind(self):
        value = (50, (7, (7, (), (), ()), (), ()), (), (0, (), (), ()))
        self.check(THREE, (), 0, 3, value, True)
        self.check(THREE, (), 0, 2, value, False)

    def test_bools_for_numbers(self):
        self.check((PAY, ()), (), 0, 9, (1, (), (), ()), True)
        self.check((PAY, ()), (), 0, 9, (True, (), (), ()), False)
        self.check((PAY, (("pay", 1),)), (), 0, 9, (0, (), (), ()), True)
        self.check((PAY, (("pay", 1),)), (), 0, 9, (False, (), (), ()), False)

    def test_any_value(self):
        for value in (*ODD_VALUES, deep_list(20), deep_tuple(20), (None,) * 3999, PAY, THREE, STOP, kinds_of(THREE),
                      [0, (), (), ()], {"plan": ()}, {0: ()}, (0, [], [], [])):
            for family in ((PAY,), THREE):
                self.check(family, (), 0, 99, value, False)
        self.check((PAY,), (), 0, 0, (), True)

    def test_a_plan_holds_behind_what_it_was_made_for(self):
        for heard, lies in itertools.product(((), ((3, 0),), ((3, 1),), ((3, 1), (2, 1))), (0, 1)):
            plan = plan_of(STARS, heard, lies)
            for other, more in itertools.product(((), ((3, 0),), ((3, 1),), ((3, 1), (2, 1))), (0, 1)):
                wanted = all(len(left(STARS, end, more)) <= 1 for end in ends_of(plan, other))
                self.check(STARS, other, more, 99, plan, wanted)

    def test_signs_that_a_program_shows(self):
        self.assertEqual(signs_at(STARS, 3), (0, 0, 0, 1, 0))


if __name__ == "__main__":
    unittest.main()
