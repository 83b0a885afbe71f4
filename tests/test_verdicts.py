"""Section 4 of the document: parted, kin, where, kills, kills_hold and unkilled; promise 2 (b), (c), (d)."""

import copy
import itertools
import random
import unittest

from whichheld.families import family_error
from whichheld.programs import contrary, mutants
from whichheld.runs import sign
from whichheld.tables import kinds_of, signs_of
from whichheld.verdicts import kills, kills_hold, kin, parted, unkilled, where
from fars import FAR_THREE, LIGHT, LIGHT_THREE, LIGHT_ZERO, STARS, STEPS, at_far, at_near, marked, moved, single
from heavies import FAR, FAR_ZERO, HEAVY, PAY, STOP, each_family, edges, numbers_for
from kit import BIG, NO_NUMBERS, ODD_VALUES, deep_list, deep_tuple, in_order, place_of, sort_of
from makers import denied, random_family, random_program, renamed, second_signs, written_out

TWICE = (("pay", ("times", 2, "n")),)


class Kit(unittest.TestCase):
    def check(self, function, arguments, wanted):
        kept = copy.deepcopy(arguments)
        self.assertEqual(sort_of(function(*arguments)), sort_of(wanted), (function, arguments))
        self.assertEqual(sort_of(arguments), sort_of(kept))
        self.assertEqual(sort_of(function(*arguments)), sort_of(wanted))


class PartedTest(Kit):
    def check_both(self, one, other, wanted):
        self.check(parted, (one, other), wanted)
        self.check(parted, (other, one), wanted)

    def test_alike_ones(self):
        for one, other in ((PAY, PAY), ((), ()), (PAY, TWICE), ((), (STOP,)), ((STOP,), (STOP, *PAY)),
                           ((("pay", 1),), (("pay", 99),)), (FAR, FAR), (at_far(0), FAR), (FAR, FAR + (("set", "a", 1),))):
            self.check_both(one, other, None)

    def test_the_first_number(self):
        for one, other, wanted in (
                (PAY, (), 1), ((), (("pay", 1),), 0), (PAY, (("pay", ("plus", "n", 1)),), 0),
                (PAY, (("pay", ("minus", "n", 2)),), 0), (PAY, (("pay", 1),), 0), (PAY, contrary(PAY), 1),
                (single(-5), (), -5), (single(5), single(-5), 5), (single(-4), single(5), -4), (single(4), single(-5), 4),
                (marked(5, 4), (), -1), (marked(5, 2), (), 2), (marked(6, 3), marked(6, 4), -2), (marked(5, 3), (), -2)):
            self.check_both(one, other, wanted)

    def test_a_single_number_far_from_0(self):
        for family in (FAR_THREE, LIGHT_THREE, tuple([moved(program, 57) for program in LIGHT_THREE]),
                       tuple([contrary(program) for program in LIGHT_THREE])):
            self.assertIsNone(family_error(family))
        self.assertEqual([second_signs(FAR_THREE, FAR_ZERO + n) for n in (-1, 0, 1)],
                         [(-1, -1, -1), (0, 1, -1), (1, 1, 1)])
        for one, other in itertools.combinations(FAR_THREE, 2):
            self.check_both(one, other, FAR_ZERO)
        for one, other in itertools.combinations(LIGHT_THREE, 2):
            self.check_both(moved(one, 57), moved(other, 57), LIGHT_ZERO - 57)
            self.check_both(contrary(one), contrary(other), LIGHT_ZERO)
        self.check_both(FAR, at_far(1), FAR_ZERO)
        self.check_both(FAR, at_far(0), None)
        below = [LIGHT + (("pay", ("plus", "n", "b")),), LIGHT + (("pay", ("plus", "n", "b")),) * 2 + (("pay", 1),)]
        self.check_both(*below, -LIGHT_ZERO)

    def test_a_single_number_near_0(self):
        for number in range(-99, 100):
            for one, other in itertools.combinations((-1, 0, 1), 2):
                self.check_both(at_near(number, one), at_near(number, other), number)
            self.check_both(single(number), (), number)
            self.check_both(single(number, -1), single(number), number)

    def test_the_same_written_otherwise(self):
        source = random.Random(31)
        for _ in range(120):
            program = random_program(source)
            for change in (denied, renamed, written_out):
                self.check_both(program, change(program), None)

    def test_against_a_search(self):
        source = random.Random(32)
        counts = {True: 0, False: 0}
        for _ in range(150):
            one, other = random_family(source, 2)
            if source.random() < 0.5:
                other = source.choice(mutants(one) or (other,))
            found = parted(one, other)
            counts[found is None] += 1
            first = [n for n in in_order(200) if second_signs((one,), n) != second_signs((other,), n)][:1]
            if first:
                self.assertEqual(found, first[0])
            elif found is not None:
                self.assertGreaterEqual(place_of(found), 200)
            numbers = numbers_for(source, signs_of((one, other)))
            unlike = [n for n in numbers if second_signs((one,), n) != second_signs((other,), n)]
            if found is None:
                self.assertEqual(unlike, [])
            else:
                self.assertNotEqual(sign(one, found), sign(other, found))
                self.assertLessEqual(place_of(found), min([place_of(n) for n in unlike], default=place_of(found)))
        self.assertGreater(min(counts.values()), 20)


class KinTest(Kit):
    def test_families(self):
        for family, wanted in (
                ((PAY,), ((0,),)), ((PAY, PAY), ((0, 1),)), ((PAY, (), TWICE), ((0, 2), (1,))),
                (((), PAY, (STOP,), TWICE, (STOP, *PAY)), ((0, 2, 4), (1, 3))),
                (((), (), (), (), ()), ((0, 1, 2, 3, 4),)), (STARS, ((0,), (1,), (2,), (3,), (4,))),
                ((*FAR_THREE, FAR, at_far(-1)), ((0, 3), (1,), (2, 4))),
                ((FAR, *FAR_THREE), ((0, 1), (2,), (3,))),
                ((PAY, contrary(PAY), contrary(contrary(PAY)), ()), ((0, 2), (1,), (3,)))):
            self.check(kin, (family,), wanted)

    def test_by_parted(self):
        source = random.Random(33)
        for size in (2, 3, 4, 5):
            for _ in range(40):
                family = list(random_family(source, size))
                family[-1] = source.choice((denied, renamed, written_out))(family[source.randrange(size)])
                groups = kin(tuple(family))
                self.assertEqual(sorted([index for group in groups for index in group]), list(range(size)))
                self.assertEqual([list(group) for group in groups], sorted([sorted(group) for group in groups]))
                place = {index: at for at, group in enumerate(groups) for index in group}
                for one, other in itertools.combinations(range(size), 2):
                    alike = parted(family[one], family[other]) is None
                    self.assertEqual(place[one] == place[other], alike)
                self.check(kin, (tuple(family),), groups)


class WhereTest(Kit):
    def test_signs_that_are_somewhere_and_nowhere(self):
        family = (PAY, (("pay", ("minus", "n", 2)),))
        wanted = {(-1, -1): -1, (0, -1): 0, (1, -1): 1, (1, 0): 2, (1, 1): 3}
        for signs in itertools.product((-1, 0, 1), repeat=2):
            self.check(where, (family, signs), wanted.get(signs))
        self.check(where, ((FAR,), (0,)), FAR_ZERO)
        self.check(where, (FAR_THREE, (0, 1, -1)), FAR_ZERO)
        self.check(where, (FAR_THREE, (0, 1, 1)), None)
        self.check(where, (FAR_THREE, (1, 1, 1)), FAR_ZERO + 1)

    def test_all_signs_of_families(self):
        source = random.Random(34)
        for family in each_family(source, 12):
            known = dict(kinds_of(family))
            first = {}
            for number in in_order(200):
                first.setdefault(second_signs(family, number), number)
            every = list(itertools.product((-1, 0, 1), repeat=len(family)))
            for signs in {*source.sample(every, min(9, len(every))), *list(known)[:9]}:
                self.assertEqual(where(family, signs), known.get(signs))
                if signs in first:
                    self.assertEqual(where(family, signs), first[signs])

    def test_tuples_of_another_length(self):
        for signs in ((), (1,), (1, 1, 1), (-1, -1, 0), (0, -1, 0), (0,) * 3999):
            self.check(where, ((PAY, TWICE), signs), None)
        self.check(where, ((PAY,), ()), None)
        self.check(where, ((PAY, TWICE), (1, 1)), 1)

    def test_bools(self):
        family = (PAY, ())
        self.check(where, (family, (1, 0)), 1)
        self.check(where, (family, (0, 0)), 0)
        for signs in ((True, 0), (1, False), (True, False), (False, False), (0, False), (False, 0)):
            self.check(where, (family, signs), None)

    def test_any_value(self):
        for value in (*ODD_VALUES, deep_list(20), deep_tuple(20), [1, 0], {1: 0}, "10", (2, 0), (1, None), (1, "0"),
                      ([], 0), ({}, 0), ((1,), (0,)), (1, (0,)), (BIG, -BIG), PAY, (PAY, ()), ([1], [0]), (1, -2)):
            self.check(where, ((PAY, ()), value), None)
            self.check(where, ((PAY,), value), None)


class KillsTest(Kit):
    def check_kills(self, family, many):
        kept = copy.deepcopy(family)
        numbers = kills(family)
        self.assertEqual(sort_of(numbers), sort_of(tuple([int(number) for number in numbers])))
        self.assertEqual(len(numbers), many, family)
        self.assertEqual(list(numbers), sorted(set(numbers), key=place_of))
        self.assertIs(kills_hold(family, numbers), True)
        self.assertEqual(sort_of(kills(family)), sort_of(numbers))
        self.assertEqual(family, kept)

    def test_none_where_all_are_alike(self):
        for family in ((PAY,), ((),) * 5, (PAY, TWICE, PAY), (FAR, at_far(0))):
            self.check(kills, (family,), ())

    def test_how_many(self):
        self.check_kills((PAY, (("pay", ("minus", "n", 1)),), (("pay", ("plus", "n", 1)),), TWICE), 1)
        self.check_kills(STARS, 1)
        self.check_kills(((), *STARS[:4]), 4)
        self.check_kills(((), STARS[0], STARS[0], STARS[3], (STOP,)), 2)
        self.check_kills(STEPS, 1)
        self.check_kills((STEPS[2], *STEPS[:2], *STEPS[3:]), 2)
        self.check_kills(((), single(3), single(-3), single(50), single(-99)), 4)
        self.check_kills(((), single(3), single(-3), single(3, -1), single(-3, -1)), 2)
        self.check_kills(FAR_THREE, 1)
        self.assertEqual(kills(FAR_THREE), (FAR_ZERO,))
        self.assertEqual(kills((*LIGHT_THREE[:2], moved(LIGHT_THREE[0], 5))), (LIGHT_ZERO,))

    def test_numbers_that_are_taken_first_but_not_needed(self):
        # Each number kills two programs that stand side by side in a ring, but two numbers that overlap do not do.
        ring = [marked(6, rest) + marked(6, (rest + 1) % 4) for rest in range(4)]
        self.assertIsNone(family_error(((), *ring)))
        for order in itertools.permutations(ring):
            self.check_kills(((), *order), 2)

    def test_the_order_of_inputs(self):
        self.check(kills, (((), single(-7), single(7), single(3), single(-90)),), (3, 7, -7, -90))
        self.check(kills, (((), single(-7), single(6), single(-3)),), (-3, 6, -7))

    def test_as_few_as_can_be(self):
        source = random.Random(35)
        for family in each_family(source, 25):
            numbers = kills(family)
            self.check_kills(family, len(numbers))
            wanted = {at for at in range(1, len(family)) if parted(family[0], family[at]) is not None}
            gains = {frozenset([at for at in wanted if signs[at] != signs[0]]) for signs, number in kinds_of(family)}
            for size in range(len(numbers)):
                for chosen in itertools.combinations(gains, size):
                    self.assertFalse(wanted <= set().union(*chosen))


class KillsHoldTest(Kit):
    def test_any_order_and_repeats(self):
        family = ((), single(3), single(-3), single(40))
        for numbers in itertools.permutations((3, -3, 40)):
            self.check(kills_hold, (family, numbers), True)
            self.check(kills_hold, (family, numbers * 2), True)
            self.check(kills_hold, (family, numbers + (BIG, 0, -1)), True)
            self.check(kills_hold, (family, numbers[:2]), False)
            self.check(kills_hold, (family, numbers[:1] * 9 + numbers[1:2]), False)
        self.check(kills_hold, (family, ()), False)
        self.check(kills_hold, (family, (3, -3, 40) * 1300), True)
        self.check(kills_hold, (family, (3, -3, 41) * 1300), False)

    def test_only_the_first_one_counts(self):
        family = (single(1), single(2), single(3))
        self.check(kills_hold, (family, (1,)), True)
        self.check(kills_hold, (family, (2,)), False)
        self.check(kills_hold, (family, (2, 3)), True)
        self.check(kills_hold, (family, (3, 2, 2)), True)

    def test_where_all_are_alike(self):
        for numbers in ((), (0,), (0, 0), (BIG, -BIG)):
            self.check(kills_hold, ((PAY, TWICE), numbers), True)
            self.check(kills_hold, ((PAY,), numbers), True)

    def test_far_from_0(self):
        for number in (FAR_ZERO - 1, FAR_ZERO, FAR_ZERO + 1, -FAR_ZERO, 0, BIG):
            self.check(kills_hold, (FAR_THREE, (number,)), number == FAR_ZERO)
            self.check(kills_hold, (FAR_THREE[1:], (number, 7)), number == FAR_ZERO)

    def test_against_a_search(self):
        source = random.Random(36)
        for _ in range(300):
            family = random_family(source, source.randint(2, 4))
            wanted = [at for at in range(1, len(family)) if parted(family[0], family[at]) is not None]
            pool = [*kills(family), *range(-9, 10)]
            value = tuple([source.choice(pool) for _ in range(source.randrange(5))])
            rows = [second_signs(family, number) for number in value]
            self.check(kills_hold, (family, value), all(any(row[at] != row[0] for row in rows) for at in wanted))

    def test_any_value(self):
        for value in NO_NUMBERS:
            self.check(kills_hold, ((PAY, ()), value), False)
            self.check(kills_hold, ((PAY, TWICE), value), False)
        self.check(kills_hold, ((PAY, TWICE), ()), True)

    def test_bools_for_numbers(self):
        self.check(kills_hold, ((PAY, ()), (1,)), True)
        self.check(kills_hold, ((PAY, ()), (True,)), False)
        self.check(kills_hold, ((PAY, ()), (1, True)), False)
        self.check(kills_hold, ((PAY, ()), (1, False)), False)
        self.check(kills_hold, ((PAY, ()), [1]), False)


class UnkilledTest(Kit):
    def test_programs(self):
        for program, wanted in (
                ((), ()), (PAY, ()), ((STOP,), (0,)), ((STOP, *PAY), (1, 2)), ((("set", "a", 1),), (0, 1)),
                ((("pay", 0),), (0, 1)), ((("repeat", 1, PAY),), (1,)), ((("repeat", 3, PAY),), (1,)),
                ((("repeat", 2, ()), ("pay", 1)), (0, 1))):
            self.check(unkilled, (program,), wanted)
        self.check(unkilled, (FAR[:3] + (("pay", ("minus", "n", ("plus", "b", "c"))),),), ())

    def test_by_parted(self):
        source = random.Random(37)
        for _ in range(60):
            program = random_program(source)
            wanted = [at for at, other in enumerate(mutants(program)) if parted(program, other) is None]
            self.check(unkilled, (program,), tuple(wanted))
        for family in HEAVY:
            for program in family:
                wanted = [at for at, other in enumerate(mutants(program)) if parted(program, other) is None]
                self.check(unkilled, (program,), tuple(wanted))

    def test_mutants_that_have_the_same_signs(self):
        source = random.Random(38)
        for _ in range(20):
            program = random_program(source)
            numbers = edges(signs_of((program,)))[:60] + [*range(-40, 41)]
            alike = unkilled(program)
            for at, other in enumerate(mutants(program)):
                unlike = [n for n in numbers if second_signs((program,), n) != second_signs((other,), n)]
                if at in alike:
                    self.assertEqual(unlike, [])
                else:
                    first = parted(program, other)
                    self.assertNotEqual(second_signs((program,), first), second_signs((other,), first))

    def test_killed_by_kills(self):
        source = random.Random(39)
        for _ in range(40):
            program = random_program(source)
            family = (program, *mutants(program)[:4])
            for at in range(1, len(family)):
                killed = [n for n in kills(family) if sign(family[at], n) != sign(program, n)]
                self.assertEqual(killed == [], at - 1 in unkilled(program))


if __name__ == "__main__":
    unittest.main()
