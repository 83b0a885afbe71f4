"""What reaches over the whole program: a single integer far out, other orders, contrary ones, inputs moved, copies, equal calls."""

import copy
import itertools
import random
import unittest

from whichheld.aheads import ahead_holds, ahead_of
from whichheld.benches import Bench, FairBench
from whichheld.consoles import Console
from whichheld.families import signs_at
from whichheld.hearing import left
from whichheld.plans import plan_holds, plan_of, tries
from whichheld.programs import contrary, mutants, program_error
from whichheld.tables import kinds_of, signs_hold, signs_of
from whichheld.texts import family_text, parse_family
from whichheld.verdicts import kills, kills_hold, kin, parted, unkilled, where
from fars import FAR_THREE, LIGHT_THREE, LIGHT_ZERO, STARS, STEPS, at_far, at_near, moved
from heavies import FAR_ZERO, HEAVY, each_family
from kit import place_of, sort_of
from makers import denied, random_family, renamed, written_out


def far_families():
    """Families of three programs that differ at a single integer alone, with this integer."""
    below = [program[:3] + (("set", "b", ("times", -1, "b")),) + program[3:] for program in LIGHT_THREE]
    return [
        (FAR_THREE, FAR_ZERO, (0, 1, -1)), (tuple(below), -LIGHT_ZERO, (0, 1, -1)),
        (tuple([contrary(program) for program in LIGHT_THREE]), LIGHT_ZERO, (0, -1, 1)),
        (tuple([moved(program, 98) for program in LIGHT_THREE]), LIGHT_ZERO - 98, (0, 1, -1)),
        (tuple([at_far(sign) for sign in (1, -1, 0)]), FAR_ZERO, (1, -1, 0)),
        *[(tuple([at_near(number, sign) for sign in (1, 0, -1)]), number, (1, 0, -1)) for number in (-99, 50, 99)]]


class SingleIntegerTest(unittest.TestCase):
    def test_all_go_by_it(self):
        for family, number, signs in far_families():
            self.assertEqual([program_error(program) for program in family], [None] * 3)
            self.assertEqual(signs_at(family, number), signs)
            for beside in (number - 1, number + 1, number - 60, number + 60, 0):
                self.assertEqual(len(set(signs_at(family, beside))), 1)
            for one, other in itertools.permutations(family, 2):
                self.assertEqual(parted(one, other), number)
            self.assertEqual(where(family, signs), number)
            self.assertIsNone(where(family, signs[::-1]) if signs[::-1] != signs else None)
            self.assertEqual(dict(kinds_of(family))[signs], number)
            self.assertEqual(len(kinds_of(family)), 3)
            self.assertEqual(kin(family), ((0,), (1,), (2,)))
            self.assertEqual(kin((*family, family[1])), ((0,), (1, 3), (2,)))
            self.assertEqual(kills(family), (number,))
            self.assertEqual([kills_hold(family, (number + shift,)) for shift in (-1, 0, 1)], [False, True, False])
            self.assertEqual([ahead_of(family, 0), ahead_of(family, 1)], [(number,), (number,) * 3])
            self.assertEqual([ahead_holds(family, 1, (number,) * many) for many in (2, 3)], [False, True])

    def test_what_is_left_and_to_be_tried(self):
        for family, number, signs in far_families():
            for index, sign in enumerate(signs):
                self.assertEqual(left(family, ((number, sign),), 0), (index,))
                self.assertEqual(left(family, ((number, sign),) * 2, 1), (index,))
            self.assertEqual([tries(family, (), lies) for lies in (0, 1)], [1, 3])
            self.assertEqual(plan_of(family, (), 0), (number, (), (), ()))
            self.assertIs(plan_holds(family, (), 0, 1, (number + 1, (), (), ())), False)
            self.assertEqual(plan_of(family, (), 1)[0], number)
            bench = FairBench(family)
            self.assertEqual([bench.to_try(), bench.try_next(signs[1]), bench.left(), bench.heard], [number, 1, (1,), ((number, signs[1]),)])
            self.assertEqual(Console(bench).execute("heard"), f"{number} {'-0+'[signs[1] + 1]}")

    def test_tables(self):
        for family, number, signs in far_families():
            rows = [[0, 1, None, number - 1], [0, 1, number, number], [0, 1, number + 1, None]]
            told = [signs_at(family, number - 1), signs, signs_at(family, number + 1)]
            self.assertIs(signs_hold(family, tuple([(*row, one) for row, one in zip(rows, told)])), True)
            for at in range(3):
                other = tuple([(*row, signs_at(family, number + 1) if at == place else one)
                               for place, (row, one) in enumerate(zip(rows, told))])
                self.assertIs(signs_hold(family, other), at == 2)

    def test_unkilled(self):
        program = at_far(1)
        alike = [at for at, other in enumerate(mutants(program)) if other in (program[:-1], (*program[:-1], ("pay", ("times", -1, 1))))]
        self.assertEqual(len(alike), 2)
        self.assertEqual([at for at in alike if at in unkilled(program)], [])
        self.assertEqual([parted(program, mutants(program)[at]) for at in alike], [FAR_ZERO] * 2)
        program = (*at_far(0), ("pay", 0))
        self.assertIsNone(program_error(program))
        alike = [at for at, other in enumerate(mutants(program)) if other in (program[:-1], (*program[:-1], ("pay", ("times", -1, 0))))]
        self.assertEqual([at for at in alike if at in unkilled(program)], alike)
        self.assertEqual(len(alike), 2)


class OtherFormsTest(unittest.TestCase):
    def families(self, seed, many):
        return [STARS, STEPS, LIGHT_THREE, *[random_family(random.Random(seed + at), at % 4 + 2) for at in range(many)]]

    def counts(self, family):
        """What does not hang on the order of the programs, nor on what signs mean, nor on where the inputs lie."""
        return [len(kinds_of(family)), sorted([len(group) for group in kin(family)]),
                *[tries(family, (), lies) for lies in (0, 1)], *[len(ahead_of(family, lies)) for lies in (0, 1)]]

    def test_another_order(self):
        for family in self.families(100, 24):
            order = random.Random(len(kinds_of(family))).sample(range(len(family)), len(family))
            other = tuple([family[at] for at in order])
            self.assertEqual(self.counts(other), self.counts(family))
            self.assertEqual(kinds_of(other), tuple(sorted([(tuple([signs[at] for at in order]), number) for signs, number in kinds_of(family)])))
            groups = {frozenset([order.index(at) for at in group]) for group in kin(family)}
            self.assertEqual({frozenset(group) for group in kin(other)}, groups)
            for lies in (0, 1):
                self.assertIs(ahead_holds(other, lies, ahead_of(family, lies)), True)
                self.assertIs(plan_holds(other, (), lies, tries(family, (), lies), plan_of(family, (), lies)), True)

    def test_the_contrary(self):
        for family in self.families(200, 24):
            other = tuple([contrary(program) for program in family])
            if [program for program in other if program_error(program) is not None]:
                continue
            self.assertEqual(self.counts(other), self.counts(family))
            self.assertEqual(kin(other), kin(family))
            self.assertEqual(parted(other[0], other[1]), parted(family[0], family[1]))
            self.assertEqual(len(kills(other)), len(kills(family)))
            self.assertIs(kills_hold(other, kills(family)), True)
            for lies in (0, 1):
                self.assertIs(ahead_holds(other, lies, ahead_of(family, lies)), True)

    def test_inputs_moved(self):
        for family in self.families(300, 24):
            for shift in (1, -30, 97):
                other = tuple([moved(program, shift) for program in family])
                if [program for program in other if program_error(program) is not None]:
                    continue
                self.assertEqual(self.counts(other), self.counts(family))
                self.assertEqual(kin(other), kin(family))
                for lies in (0, 1):
                    numbers = tuple([number - shift for number in ahead_of(family, lies)])
                    self.assertIs(ahead_holds(other, lies, numbers), True)
                self.assertIs(kills_hold(other, tuple([number - shift for number in kills(family)])), True)
                for signs, number in kinds_of(family):
                    self.assertLessEqual(place_of(where(other, signs)), place_of(number - shift))

    def test_written_otherwise(self):
        for family in self.families(400, 16):
            for change in (denied, renamed, written_out):
                other = tuple([change(program) for program in family])
                if [program for program in other if program_error(program) is not None]:
                    continue
                self.assertEqual(sort_of([kinds_of(other), kin(other), kills(other), ahead_of(other, 1), plan_of(other, (), 1)]),
                                 sort_of([kinds_of(family), kin(family), kills(family), ahead_of(family, 1), plan_of(family, (), 1)]))
                self.assertEqual(parse_family(family_text(other)), other)


class ConventionsTest(unittest.TestCase):
    def test_equal_calls_and_arguments_as_they_were(self):
        source = random.Random(500)
        for family in each_family(source, 6):
            heard = ((1, 1), (0, 0))
            kept = copy.deepcopy((family, heard))
            calls = (
                lambda: signs_of(family), lambda: kinds_of(family), lambda: kin(family), lambda: kills(family), lambda: unkilled(family[0]),
                lambda: left(family, heard, 1), lambda: tries(family, heard, 1), lambda: plan_of(family, heard, 1), lambda: ahead_of(family, 1),
                lambda: family_text(family), lambda: Bench(family, heard, 1).to_try())
            first = [sort_of(call()) for call in calls]
            for other in HEAVY:
                plan_of(other, (), 0)
            self.assertEqual([sort_of(call()) for call in calls[::-1]][::-1], first)
            self.assertEqual((family, heard), kept)

    def test_results_stand_for_what_they_tell(self):
        source = random.Random(501)
        for family in (*each_family(source, 12), STARS, STEPS):
            for lies in (0, 1):
                numbers = ahead_of(family, lies)
                self.assertLessEqual(tries(family, (), lies), len(numbers))
                self.assertLessEqual(len(kills(family)), len(ahead_of(family, 0)))
                self.assertIs(kills_hold(family, numbers), True)
                # Numbers that settle ahead are a plan that does not ask what was heard.
                plan = ()
                if len(numbers) < 6:
                    for number in numbers[::-1]:
                        plan = (number, plan, plan, plan)
                    self.assertIs(plan_holds(family, (), lies, len(numbers), plan), True)


if __name__ == "__main__":
    unittest.main()
