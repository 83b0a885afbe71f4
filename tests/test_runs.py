"""Promise 5: run and sign; promises 4 and 5 together: programs that come to the same or to the contrary."""

import copy
import random
import unittest

from whichheld.programs import contrary, each_statement, program_error, statement_at, weight
from whichheld.runs import run, sign
from kit import BIG, nest, sort_of
from makers import denied, random_program, renamed, second_run, written_out

STOP = ("stop",)
NUMBERS = (*range(-40, 41), 997, -997, BIG, -BIG, 10 ** 60 - 1, 1 - 10 ** 60)


class Kit(unittest.TestCase):
    def check(self, program, number, wanted):
        kept = copy.deepcopy(program)
        self.assertEqual(sort_of(run(program, number)), sort_of(wanted), (program, number))
        self.assertEqual(sort_of(program), sort_of(kept))

    def check_total(self, program, number, total):
        self.assertEqual(sort_of(run(program, number)[0]), sort_of(total), (program, number))


class RunTest(Kit):
    def test_the_example(self):
        program = (("repeat", 2, (("set", "a", ("plus", "a", 1)),)), ("if", ("less", "n", 3), (("pay", "a"), ("stop",)), ()), ("pay", ("minus", 5, "n")))
        self.assertEqual([run(program, 0), run(program, 9), [sign(program, n) for n in (0, 4, 5, 6)]],
                         [(2, (0, 1, 1, 2, 3, 4)), (-4, (0, 1, 1, 2, 5)), [1, 1, 0, -1]])

    def test_nothing_at_all(self):
        for number in NUMBERS:
            self.check((), number, (0, ()))
            self.check((STOP,), number, (0, (0,)))

    def test_expressions(self):
        for number in NUMBERS:
            for amount, total in (
                    (7, 7), (-99, -99), (0, 0), ("n", number), ("a", 0), ("plus", 0), (("plus", "n", 5), number + 5),
                    (("minus", "n", 5), number - 5), (("minus", 5, "n"), 5 - number), (("times", -9, "n"), -9 * number),
                    (("times", 0, "n"), 0), (("minus", ("times", 3, "n"), ("plus", "n", 1)), 2 * number - 1),
                    (("times", 2, ("times", 3, "n")), 6 * number), (("plus", "a", "b"), 0)):
                self.check((("pay", amount),), number, (total, (0,)))

    def test_payments_add_up(self):
        self.check((("pay", 3), ("pay", "n"), ("pay", -5)), 4, (2, (0, 1, 2)))

    def test_names(self):
        self.check_total((("set", "a", 4), ("pay", "a")), 9, 4)
        self.check_total((("set", "a", ("plus", "a", 4)), ("set", "a", ("plus", "a", "a")), ("pay", "a")), 9, 8)
        self.check_total((("set", "n", ("minus", "n", 1)), ("pay", "n")), 9, 8)
        self.check_total((("set", "a", "n"), ("set", "n", 1), ("pay", "a"), ("pay", "n")), 9, 10)
        self.check_total((("pay", "a"), ("set", "a", 4)), 9, 0)
        self.check_total((("set", "total", 5), ("set", "places", 6)), 9, 0)

    def test_no_call_knows_of_another(self):
        program = (("set", "a", ("plus", "a", "n")), ("pay", "a"))
        self.assertEqual([run(program, n)[0] for n in (5, 5, 1, 5)], [5, 5, 1, 5])

    def test_less(self):
        program = (("if", ("less", "n", 3), (("pay", 1),), (("pay", 2),)),)
        for number in NUMBERS:
            self.check(program, number, (1, (0, 1)) if number < 3 else (2, (0, 2)))

    def test_rest_is_from_0_on(self):
        for by in range(2, 7):
            for rest in range(by):
                program = (("if", ("rest", "n", by, rest), (("pay", 1),), ()), STOP)
                for number in NUMBERS:
                    self.check(program, number, (1, (0, 1, 2)) if number % by == rest else (0, (0, 2)))

    def test_not(self):
        for test, truth in ((("less", 0, 1), True), (("less", 1, 1), False), (("rest", 7, 3, 1), True),
                            (("rest", -1, 3, 1), False), (("rest", -1, 3, 2), True)):
            for nots in range(3):
                self.check((("if", test, (), (STOP,)), ("pay", 1)), 0, (1, (0, 2)) if truth else (0, (0, 1)))
                test, truth = ("not", test), not truth

    def test_places_behind_both_blocks(self):
        inner = ("repeat", 2, (("pay", 1), ("if", ("less", "n", 0), (("pay", 10), STOP), (("pay", 100),))))
        program = (("if", ("rest", "n", 2, 0), (inner, ("pay", 1000)), (inner, inner)), ("pay", -1))
        self.check(program, 2, (1201, (0, 1, 2, 3, 6, 2, 3, 6, 7, 20)))
        self.check(program, 1, (403, (0, 8, 9, 10, 13, 9, 10, 13, 14, 15, 16, 19, 15, 16, 19, 20)))
        self.check(program, -1, (11, (0, 8, 9, 10, 11, 12)))
        self.check(program, -2, (11, (0, 1, 2, 3, 4, 5)))

    def test_repeats(self):
        for times in range(1, 9):
            self.check((("repeat", times, (("pay", 1), ("pay", 2))), ("pay", 5)), 0,
                       (3 * times + 5, (0, *((1, 2) * times), 3)))
            self.check((("repeat", times, ()), STOP), 0, (0, (0, 1)))
        self.check((("repeat", 2, (("repeat", 3, (("pay", 1),)), ("pay", 10))),), 0,
                   (26, (0, 1, 2, 2, 2, 3, 1, 2, 2, 2, 3)))
        self.check(nest(3, (("pay", 1),)), 0, (1, (0, 1, 2, 3)))

    def test_a_name_that_grows_in_a_repeat(self):
        program = (("set", "a", "n"), ("repeat", 8, (("set", "a", ("times", 9, "a")),)), ("pay", "a"))
        self.check(program, -BIG, (-BIG * 9 ** 8, (0, 1, *[2] * 8, 3)))

    def test_a_test_in_a_repeat(self):
        program = (("repeat", 2, (("if", ("less", "n", 5), (("set", "n", ("plus", "n", 5)),), (("pay", "n"),)),)),)
        self.check(program, 3, (8, (0, 1, 2, 1, 3)))
        self.check(program, 5, (10, (0, 1, 3, 1, 3)))
        self.check(program, -5, (0, (0, 1, 2, 1, 2)))

    def test_stop_in_blocks_and_repeats(self):
        self.check((STOP, ("pay", 1)), 0, (0, (0,)))
        self.check((("pay", 1), STOP, STOP), 0, (1, (0, 1)))
        self.check((("repeat", 8, (("pay", 1), STOP, ("pay", 2))), ("pay", 4)), 0, (1, (0, 1, 2)))
        self.check((("repeat", 2, (("pay", 1), ("if", ("less", 0, 1), (("repeat", 2, (STOP,)), ("pay", 2)), ()))),
                    ("pay", 4)), 0, (1, (0, 1, 2, 3, 4)))
        program = (("repeat", 2, (("set", "a", ("plus", "a", "n")), ("if", ("less", 5, "a"), (STOP,), ()),
                                  ("pay", "a"))), ("pay", 100))
        self.check(program, 2, (106, (0, 1, 2, 4, 1, 2, 4, 5)))
        self.check(program, 3, (3, (0, 1, 2, 4, 1, 2, 3)))
        self.check(program, 6, (0, (0, 1, 2, 3)))

    def test_against_a_second_way_of_running(self):
        source = random.Random(5)
        longest = 0
        for _ in range(300):
            program = random_program(source)
            for number in (*range(-13, 14), source.randint(-BIG, BIG), source.choice(NUMBERS)):
                wanted = second_run(program, number)
                self.check(program, number, wanted)
                longest = max(longest, len(wanted[1]))
        self.assertGreater(longest, 20)

    def test_places_are_those_of_the_statements(self):
        source = random.Random(6)
        for _ in range(100):
            program = random_program(source)
            total, places = run(program, source.randint(-9, 9))
            self.assertLess(max(places), len(list(each_statement(program))))
            self.assertLessEqual(len(places), weight(program))
            self.assertEqual([place for place in places[:-1] if statement_at(program, place) == STOP], [])


class SignTest(unittest.TestCase):
    def test_below_at_and_above_0(self):
        for number in NUMBERS:
            wanted = 0 if number == 0 else number // abs(number)
            self.assertEqual(sort_of(sign((("pay", "n"),), number)), sort_of(wanted))
            self.assertEqual(sort_of(sign((("pay", ("times", -9, "n")),), number)), sort_of(-wanted))

    def test_near_0(self):
        program = (("pay", ("minus", "n", 7)),)
        self.assertEqual([sign(program, n) for n in (6, 7, 8, 10 ** 60, -10 ** 60)], [-1, 0, 1, 1, -1])

    def test_it_is_that_of_the_whole_total(self):
        self.assertEqual(sign((("pay", 5), ("pay", -5)), 0), 0)
        self.assertEqual(sign((("pay", 5), ("pay", -6), STOP, ("pay", 9)), 0), -1)
        self.assertEqual(sort_of(sign((), 3)), sort_of(0))


class OtherWritingTest(unittest.TestCase):
    def test_the_contrary(self):
        source = random.Random(7)
        fine = 0
        for _ in range(200):
            program = random_program(source)
            other = contrary(program)
            fine += program_error(other) is None
            for number in NUMBERS[::7]:
                total, places = run(program, number)
                self.assertEqual(run(other, number), (-total, places))
                self.assertEqual(sign(other, number), -sign(program, number))
        self.assertGreater(fine, 20)

    def test_the_same_written_otherwise(self):
        source = random.Random(8)
        for _ in range(200):
            program = random_program(source)
            for other in (denied(program), written_out(program), renamed(program)):
                for number in NUMBERS[::7]:
                    self.assertEqual(run(other, number)[0], run(program, number)[0], (program, other))
                    self.assertEqual(sign(other, number), sign(program, number))


if __name__ == "__main__":
    unittest.main()
