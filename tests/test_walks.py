"""Promise 4: each_statement, statement_at and weight."""

import copy
import unittest

from whichheld.errors import NoPlace
from whichheld.programs import each_statement, program_error, statement_at, weight
from kit import ODD_VALUES, deep_list, nest, sort_of

STOP = ("stop",)
SET = ("set", "a", "n")
PAY = ("pay", "a")
IF = ("if", ("less", "a", 0), (), (PAY,))
EXAMPLE = (("repeat", 2, (SET, IF)), STOP)

INNER_REPEAT = ("repeat", 2, (("pay", 3),))
YES = (("pay", 1), INNER_REPEAT, ("pay", 4))
NO = (("if", ("rest", "n", 3, 1), (), (("pay", 5), ("pay", 6))), ("pay", 7))
BOTH = ("if", ("not", ("less", "n", 2)), YES, NO)
WIDE = (("pay", 0), BOTH, ("repeat", 1, ()), ("pay", 8))
WIDE_ROWS = [
    (0, 0, ("pay", 0)), (1, 0, BOTH), (2, 1, ("pay", 1)), (3, 1, INNER_REPEAT), (4, 2, ("pay", 3)),
    (5, 1, ("pay", 4)), (6, 1, NO[0]), (7, 2, ("pay", 5)), (8, 2, ("pay", 6)), (9, 1, ("pay", 7)),
    (10, 0, ("repeat", 1, ())), (11, 0, ("pay", 8)),
]


class EachStatementTest(unittest.TestCase):
    def check(self, program, rows):
        self.assertIsNone(program_error(program))
        kept = copy.deepcopy(program)
        self.assertEqual(sort_of(list(each_statement(program))), sort_of(rows))
        self.assertEqual(sort_of(program), sort_of(kept))

    def test_the_example(self):
        self.check(EXAMPLE, [(0, 0, EXAMPLE[0]), (1, 1, SET), (2, 1, IF), (3, 2, PAY), (4, 0, STOP)])
        self.assertEqual([row[:2] for row in each_statement(EXAMPLE)], [(0, 0), (1, 1), (2, 1), (3, 2), (4, 0)])

    def test_the_empty_program(self):
        self.check((), [])

    def test_blocks_in_blocks(self):
        self.check(WIDE, WIDE_ROWS)

    def test_the_deepest_program(self):
        program = nest(3, (STOP, PAY)) + (SET,)
        self.check(program, [(0, 0, program[0]), (1, 1, nest(2, (STOP, PAY))[0]), (2, 2, nest(1, (STOP, PAY))[0]),
                             (3, 3, STOP), (4, 3, PAY), (5, 0, SET)])

    def test_as_many_statements_as_may_be(self):
        self.check((STOP,) * 24, [(place, 0, STOP) for place in range(24)])

    def test_two_walks_by_turns(self):
        one, other, third = each_statement(WIDE), each_statement(WIDE), each_statement(EXAMPLE)
        found = [next(one), next(one), next(one)]
        others, thirds = [], []
        for _ in range(9):
            others.append(next(other))
            found.append(next(one))
        for row in third:
            thirds.append(row)
            others.extend(list(other)[:3])
        self.assertEqual((found, others), (WIDE_ROWS, WIDE_ROWS))
        self.assertEqual(thirds, list(each_statement(EXAMPLE)))

    def test_a_walk_that_is_left(self):
        self.assertEqual(next(each_statement(WIDE)), WIDE_ROWS[0])
        self.assertEqual(list(each_statement(WIDE)), WIDE_ROWS)


class StatementAtTest(unittest.TestCase):
    def check_no_place(self, program, place):
        with self.assertRaises(NoPlace) as caught:
            statement_at(program, place)
        self.assertIs(caught.exception.place, place)

    def test_each_place(self):
        for program in (EXAMPLE, WIDE, nest(3, (STOP,)), (STOP,)):
            for place, depth, statement in list(each_statement(program)):
                with self.subTest((program, place)):
                    self.assertEqual(sort_of(statement_at(program, place)), sort_of(statement))

    def test_the_places_of_the_example(self):
        self.assertEqual([statement_at(EXAMPLE, place) for place in range(5)], [EXAMPLE[0], SET, IF, PAY, STOP])

    def test_no_integers_and_integers_that_are_too_great_or_too_small(self):
        for program, places in ((EXAMPLE, 5), (WIDE, 12), ((STOP,), 1), ((), 0), ((STOP,) * 24, 24)):
            for place in (places, places + 1, -1, -2, -places, -places - 1, 99, 10 ** 59, -(10 ** 59)):
                if place not in range(places):
                    with self.subTest((program, place)):
                        self.check_no_place(program, place)

    def test_other_values(self):
        odd = [value for value in ODD_VALUES if type(value) is not int]
        odd += [(), (0,), (0, 0), "0", "1", [0], {0: 0}, ((0,),), deep_list(20), STOP, EXAMPLE, (0, 1, None, 0, (1,))]
        for program in (EXAMPLE, (), (STOP, STOP)):
            for place in odd:
                with self.subTest((program, place)):
                    self.check_no_place(program, place)

    def test_the_value_is_unchanged(self):
        place = [1, {"a": [2]}]
        self.check_no_place(EXAMPLE, place)
        self.assertEqual(place, [1, {"a": [2]}])


class WeightTest(unittest.TestCase):
    def check(self, program, wanted):
        kept = copy.deepcopy(program)
        found = weight(program)
        self.assertIs(type(found), int)
        self.assertEqual(found, wanted)
        self.assertEqual(sort_of(program), sort_of(kept))

    def test_the_example(self):
        self.check(EXAMPLE, 8)

    def test_single_statements(self):
        self.check((), 0)
        self.check((STOP,), 1)
        self.check((SET,), 1)
        self.check((PAY,), 1)
        self.check((STOP, SET, PAY, PAY), 4)

    def test_blocks(self):
        self.check((("if", ("less", 0, 1), (), ()),), 1)
        self.check((("if", ("less", 0, 1), (STOP,), (PAY, SET)),), 4)
        self.check((("repeat", 8, ()),), 1)
        self.check((("repeat", 1, (STOP,)),), 2)
        self.check((("repeat", 8, (STOP,)),), 9)
        self.check((("repeat", 8, (STOP, PAY, SET)), SET), 26)

    def test_blocks_in_blocks(self):
        self.check(WIDE, 13)
        self.check((("repeat", 3, (("repeat", 2, (STOP, PAY)), STOP)),), 19)
        self.check((("repeat", 2, (("repeat", 2, (("repeat", 2, (STOP,)),)),)),), 15)
        self.check((("repeat", 2, (("if", ("less", 0, 1), (STOP, STOP), (("repeat", 3, (STOP,)),)),)),), 15)
        self.check(nest(3, (STOP,)), 4)


if __name__ == "__main__":
    unittest.main()
