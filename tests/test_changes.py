"""Promise 4: contrary and mutants."""

import copy
import unittest

from whichheld.programs import contrary, mutants, program_error
from kit import nest, sort_of

STOP = ("stop",)
LESS = ("less", "n", 0)
DEEP = ("plus", ("minus", "n", 1), 2)


class Kit(unittest.TestCase):
    def check(self, function, program, wanted):
        kept = copy.deepcopy(program)
        self.assertEqual(sort_of(function(program)), sort_of(wanted))
        self.assertEqual(sort_of(program), sort_of(kept))


class ContraryTest(Kit):
    def test_the_example(self):
        program = (("repeat", 2, (("set", "a", "n"), ("if", ("less", "a", 0), (), (("pay", "a"),)))), STOP)
        wanted = (("repeat", 2, (("set", "a", "n"), ("if", ("less", "a", 0), (),
                                                     (("pay", ("times", -1, "a")),)))), STOP)
        self.check(contrary, program, wanted)

    def test_no_payments(self):
        for program in ((), (STOP,), (("set", "a", 1),), (("repeat", 8, ()),), (("if", LESS, (), (STOP,)), STOP)):
            self.check(contrary, program, program)

    def test_each_kind_of_amount(self):
        for amount in (0, 5, -99, "n", "pay1", ("plus", "n", 1), ("minus", 1, 2), ("times", -1, "n"), DEEP):
            self.check(contrary, (("pay", amount),), (("pay", ("times", -1, amount)),))

    def test_each_block(self):
        pay, paid = ("pay", 7), ("pay", ("times", -1, 7))
        for make in (lambda one: (one, STOP, one), lambda one: (("repeat", 3, (one, one)), one),
                     lambda one: (("if", LESS, (one,), ()), STOP), lambda one: (("if", LESS, (), (one, STOP)),),
                     lambda one: (("if", LESS, (one, STOP), (STOP, one)),), lambda one: nest(3, (one,)) + (one,),
                     lambda one: (("repeat", 1, (("if", LESS, (("repeat", 2, (one,)), one), (one,)), one)),)):
            self.check(contrary, make(pay), make(paid))

    def test_as_deep_as_may_be(self):
        program = (("pay", DEEP), ("pay", 1))
        found = contrary(program)
        self.assertEqual(found, (("pay", ("times", -1, DEEP)), ("pay", ("times", -1, 1))))
        self.assertEqual(program_error(found), (0, "statement"))
        self.assertIsNone(program_error(contrary((("pay", DEEP[1]),))))

    def test_twice(self):
        self.check(contrary, contrary((("pay", 1),)), (("pay", ("times", -1, ("times", -1, 1))),))


class MutantsTest(Kit):
    def test_the_example(self):
        self.check(mutants, (("if", ("less", "n", 0), (("pay", -1),), ()),), (
            (), (("if", LESS, (), (("pay", -1),)),), (("if", LESS, (), ()),),
            (("if", LESS, (("pay", ("times", -1, -1)),), ()),)))

    def test_the_empty_program(self):
        self.check(mutants, (), ())

    def test_each_kind_of_statement(self):
        self.check(mutants, (STOP,), ((),))
        self.check(mutants, (("pay", "n"),), ((), (("pay", ("times", -1, "n")),)))
        self.check(mutants, (("set", "a", 3),), ((), (("set", "a", ("plus", 3, 1)),)))
        self.check(mutants, (("repeat", 8, ()),), ((), (("repeat", 1, ()),)))
        self.check(mutants, (("if", LESS, (), ()),), ((), (("if", LESS, (), ()),)))

    def test_equal_ones_stay(self):
        self.check(mutants, (("repeat", 1, (STOP,)),), ((), (("repeat", 1, (STOP,)),), (("repeat", 1, ()),)))
        self.check(mutants, (STOP, STOP), ((STOP,), (STOP,)))
        self.check(mutants, (("if", LESS, (STOP,), (STOP,)),), (
            (), (("if", LESS, (STOP,), (STOP,)),), (("if", LESS, (), (STOP,)),), (("if", LESS, (STOP,), ()),)))

    def test_the_places_in_their_order(self):
        one, two, three = ("pay", 1), ("set", "b", "n"), STOP
        self.check(mutants, (one, two, three), (
            (two, three), (("pay", ("times", -1, 1)), two, three),
            (one, three), (one, ("set", "b", ("plus", "n", 1)), three), (one, two)))

    def test_blocks(self):
        yes, no = (("pay", 1), STOP), (("repeat", 3, (("set", "a", 2),)),)
        choice = ("if", LESS, yes, no)
        self.check(mutants, (choice, STOP), (
            (STOP,), (("if", LESS, no, yes), STOP),
            (("if", LESS, (STOP,), no), STOP), (("if", LESS, (("pay", ("times", -1, 1)), STOP), no), STOP),
            (("if", LESS, (("pay", 1),), no), STOP),
            (("if", LESS, yes, ()), STOP), (("if", LESS, yes, (("repeat", 1, (("set", "a", 2),)),)), STOP),
            (("if", LESS, yes, (("repeat", 3, ()),)), STOP),
            (("if", LESS, yes, (("repeat", 3, (("set", "a", ("plus", 2, 1)),)),)), STOP),
            (choice,)))

    def test_at_the_greatest_depth(self):
        make = lambda *block: (("repeat", 2, (("if", LESS, (), (("repeat", 3, block),)),)), STOP)
        pay = ("pay", "n")
        found = mutants(make(pay))
        self.assertEqual(found, (
            (STOP,), (("repeat", 1, make(pay)[0][2]), STOP),
            (("repeat", 2, ()), STOP), (("repeat", 2, (("if", LESS, (("repeat", 3, (pay,)),), ()),)), STOP),
            (("repeat", 2, (("if", LESS, (), ()),)), STOP),
            (("repeat", 2, (("if", LESS, (), (("repeat", 1, (pay,)),)),)), STOP),
            make(), make(("pay", ("times", -1, "n"))), make(pay)[:1]))

    def test_expressions_as_deep_as_may_be(self):
        self.check(mutants, (("pay", DEEP), STOP), ((STOP,), (("pay", DEEP),)))
        self.check(mutants, (("set", "a", DEEP), STOP), ((STOP,), (("set", "a", DEEP),)))
        self.check(mutants, nest(3, (("set", "a", DEEP), ("pay", DEEP)))[0][2], (
            (), nest(2, (("set", "a", DEEP), ("pay", DEEP))), (("repeat", 1, ()),),
            nest(2, (("set", "a", DEEP), ("pay", DEEP))),
            nest(2, (("pay", DEEP),)), nest(2, (("set", "a", DEEP),))))

    def test_expressions_nearly_as_deep_as_may_be(self):
        near = DEEP[1]
        self.check(mutants, (("pay", near),), ((), (("pay", ("times", -1, near)),)))
        self.check(mutants, (("set", "a", near),), ((), (("set", "a", ("plus", near, 1)),)))

    def test_programs_at_the_bounds(self):
        full = (("repeat", 8, (("pay", 1), STOP, STOP)), STOP, STOP, STOP, STOP, ("set", "a", 1))
        found = mutants(full)
        self.assertEqual(len(found), 2 + 2 + 1 + 1 + 4 + 2)
        for other in found:
            self.assertIsNone(program_error(other))
        self.assertEqual(mutants((STOP,) * 24), ((STOP,) * 23,) * 24)

    def test_tests_at_the_bounds(self):
        choice = ("if", ("not", LESS), (("pay", 1),), ())
        rest = ("if", ("rest", "n", 2, 1), (), ())
        found = mutants((choice, ("repeat", 2, (rest,)), choice))
        self.assertEqual(len(found), 4 + 4 + 4)
        self.assertEqual(found[1], (("if", ("not", LESS), (), (("pay", 1),)), ("repeat", 2, (rest,)), choice))
        self.assertEqual(found[5], (choice, ("repeat", 1, (rest,)), choice))

    def test_equal_calls(self):
        program = (("repeat", 2, (("pay", 1),)), STOP)
        self.assertEqual(mutants(program), mutants(copy.deepcopy(program)))


if __name__ == "__main__":
    unittest.main()
