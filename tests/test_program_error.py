"""Promise 4: program_error for single statements, expressions, tests and names."""

import copy
import unittest

from whichheld.programs import program_error
from kit import BIG, ODD_VALUES, deep_list, deep_tuple, nest, sort_of

WORDS = ("box", "set", "pay", "stop", "if", "else", "repeat", "pass", "rest", "of", "not", "program")
GOOD_NAMES = ("n", "a", "z", "abcdefgh", "a1234567", "z0", "x9y", "plus", "minus", "times", "less",
              "boxx", "setn", "stop1", "paid", "programs", "iff", "r")
BAD_NAMES = WORDS + ("", "1", "1a", "9", "A", "aB", "N", "nN", "a_b", "_a", "a b", " a", "a ", "a\n", "\n",
                     "a-b", "-a", "abcdefghi", "abcdefgh1", "a" * 3500, "a.b", "a'", "{", "a`", "a/", "a:")
NO_TEXTS = (None, True, False, (), ("n",), [], ["n"], {}, {"n": 1})

GOOD_EXPRESSIONS = (
    0, 1, -1, 99, -99, "n", "abcdefgh", "plus",
    ("plus", 1, "n"), ("minus", "n", -99), ("times", 9, "n"), ("times", -9, 99), ("times", 0, 0),
    ("plus", "plus", "minus"), ("times", 1, "times"),
    ("plus", ("plus", "n", 1), 1), ("plus", 1, ("minus", "n", 1)), ("minus", ("times", 2, "n"), ("plus", 1, 1)),
    ("times", 2, ("times", 3, "n")), ("minus", "n", ("times", -9, -99)),
)
DEEPEST = ("plus", ("minus", "n", 1), 1)
TOO_DEEP = (
    ("plus", DEEPEST, 1), ("plus", 1, DEEPEST), ("minus", DEEPEST, "n"), ("minus", "n", DEEPEST),
    ("times", 2, DEEPEST), ("times", 1, ("times", 1, ("times", 1, "n"))),
    ("plus", 1, ("plus", 1, ("plus", 1, 1))), ("minus", ("plus", ("times", 1, 1), 1), 1),
)
BAD_EXPRESSIONS = TOO_DEEP + NO_TEXTS + BAD_NAMES + (
    100, -100, BIG, -BIG,
    ("plus",), ("plus", 1), ("plus", 1, 1, 1), ("minus", 1), ("minus", 1, 1, 1), ("minus",),
    ("times",), ("times", 1), ("times", 1, 1, 1), ("times", 10, "n"), ("times", -10, "n"),
    ("times", True, "n"), ("times", False, "n"), ("times", "n", 2), ("times", "n", "n"), ("times", None, 1),
    ("times", ("plus", 1, 1), 1), ("times", (2,), 1), ("times", [2], 1), ("times", BIG, 1),
    ("times", 1, 100), ("times", 1, True), ("times", 1, "pay"), ("times", 1, ["n"]),
    ("plus", 100, 1), ("plus", 1, -100), ("plus", True, 1), ("plus", 1, False), ("plus", None, 1),
    ("minus", 100, 1), ("minus", 1, 100), ("minus", True, 1), ("minus", 1, True), ("minus", "if", 1),
    ("minus", 1, "of"), ("plus", "not", 1), ("plus", 1, "else"),
    ["plus", 1, 1], ["minus", 1, 1], ["times", 1, 1], ("plus", ["plus", 1, 1], 1), ("plus", 1, ("plus", 1)),
    ("Plus", 1, 1), ("add", 1, 1), ("less", 1, 1), ("rest", "n", 2, 0), ("divide", 1, 1), ("", 1, 1),
    (1, 1, 1), (None, 1, 1), (("plus",), 1, 1), (["plus"], 1, 1), ({"plus": 1}, 1, 1), (True, 1, 1),
    ("set", "n", 1), ("pay", 1), ("stop",), {"plus": (1, 1)}, ("n", 1),
)

GOOD_TESTS = (
    ("less", 0, 1), ("less", "n", "n"), ("less", DEEPEST, DEEPEST),
    ("rest", "n", 2, 0), ("rest", "n", 2, 1), ("rest", 5, 6, 5), ("rest", "n", 6, 0), ("rest", DEEPEST, 3, 2),
    ("rest", "n", 4, 3), ("rest", "n", 5, 4),
    ("not", ("less", 0, 1)), ("not", ("not", ("less", 0, 1))), ("not", ("rest", "n", 3, 1)),
    ("not", ("not", ("rest", DEEPEST, 6, 5))),
)
BAD_TESTS = (
    None, True, False, 0, 1, -1, BIG, "", "n", "less", "not", "rest", (), [], {}, deep_list(20), deep_tuple(20),
    ("less",), ("less", 1), ("less", 1, 2, 3), ["less", 1, 2], ("less", 100, 1), ("less", 1, -100),
    ("less", True, 1), ("less", 1, False), ("less", "pay", 1), ("less", 1, "pay"), ("less", None, 1),
    ("rest",), ("rest", "n"), ("rest", "n", 2), ("rest", "n", 2, 0, 0), ["rest", "n", 2, 0],
    ("rest", "n", 1, 0), ("rest", "n", 0, 0), ("rest", "n", 7, 0), ("rest", "n", -2, 0), ("rest", "n", BIG, 0),
    ("rest", "n", 2, 2), ("rest", "n", 6, 6), ("rest", "n", 3, 3), ("rest", "n", 3, 4), ("rest", "n", 4, 5),
    ("rest", "n", 3, -1), ("rest", "n", 3, BIG), ("rest", "n", 3, -BIG),
    ("rest", "n", True, 0), ("rest", "n", 2, True), ("rest", "n", 2, False), ("rest", "n", None, 0),
    ("rest", "n", 2, None), ("rest", "n", "2", 0), ("rest", "n", 2, "0"), ("rest", "n", (2,), 0),
    ("rest", "n", 2, (0,)), ("rest", "n", [2], 0), ("rest", "n", 2, [0]), ("rest", "n", "a", "b"),
    ("rest", 100, 2, 0), ("rest", True, 2, 0), ("rest", "stop", 2, 0), ("rest", None, 2, 0),
    ("not",), ("not", ("less", 0, 1), 1), ["not", ("less", 0, 1)], ("not", ["less", 0, 1]), ("not", 1),
    ("not", "n"), ("not", True), ("not", None), ("not", ()), ("not", ("less", 0)), ("not", ("less", 100, 1)),
    ("not", ("not",)), ("not", ("not", 1)), ("not", ("not", ("rest", "n", 2, 2))),
    ("not", ("not", ("not", ("less", 0, 1)))), ("not", ("not", ("not", ("rest", "n", 2, 1)))),
    ("not", ("not", ("not", ("not", ("less", 0, 1))))),
    ("Less", 1, 2), ("more", 1, 2), ("equal", 1, 1), ("and", ("less", 0, 1), ("less", 0, 1)),
    ("plus", 1, 1), ("set", "n", 1), ("stop",), (1, 1, 1), (None, 1, 1), (["less"], 1, 1), ({"a": 1}, 1, 1),
    (("less", 0, 1),), (True,), (("not",), ("less", 0, 1)),
) + tuple([("less", bad, 0) for bad in TOO_DEEP]) + tuple([("less", 0, bad) for bad in TOO_DEEP]) \
  + tuple([("rest", bad, 2, 0) for bad in TOO_DEEP])

GOOD_STATEMENTS = (
    ("stop",), ("set", "n", 0), ("pay", "n"), ("if", ("less", 0, 1), (), ()), ("repeat", 1, ()), ("repeat", 8, ()),
    ("repeat", 2, (("pay", 1), ("stop",))), ("if", ("less", 0, 1), (("stop",),), (("pay", 1), ("pay", 2))),
)
BAD_STATEMENTS = (
    None, True, False, 0, 5, BIG, "", "stop", "pay n", [], {}, (), ["stop"], ["pay", 1], {"pay": 1},
    ("stop", 1), ("stop", "stop"), ("stop", ()), ("Stop",), ("STOP",), ("stop ",), ("pass",), ("else",), ("n",),
    (None,), (True,), (0,), ((),), (("stop",),), (["stop"],), ({"stop": 1},), ("",), (BIG,),
    ("set",), ("set", "a"), ("set", "a", 1, 1), ["set", "a", 1], ("Set", "a", 1), ("let", "a", 1),
    ("pay",), ("pay", 1, 1), ("pay", ()), ("Pay", 1), ("add", 1), ("box", 1),
    ("if",), ("if", ("less", 0, 1)), ("if", ("less", 0, 1), ()), ("if", ("less", 0, 1), (), (), ()),
    ["if", ("less", 0, 1), (), ()], ("if", (), ("less", 0, 1), ()), ("when", ("less", 0, 1), (), ()),
    ("repeat",), ("repeat", 2), ("repeat", 2, (), ()), ["repeat", 2, ()], ("repeat", (), 2),
    ("Repeat", 2, ()), ("while", 2, ()),
) + tuple([("repeat", bad, ()) for bad in (0, 9, -1, BIG, -BIG, True, False, None, "n", "2", (2,), [2], {}, ())]) \
  + tuple([("repeat", 2, bad) for bad in (None, True, 1, "stop", "", [], [("stop",)], {}, {0: ("stop",)})]) \
  + tuple([("if", ("less", 0, 1), bad, ()) for bad in (None, False, 1, "stop", "", [], [("stop",)], {})]) \
  + tuple([("if", ("less", 0, 1), (), bad) for bad in (None, False, 1, "stop", "", [], [("stop",)], {})])


class Kit(unittest.TestCase):
    def check(self, value, wanted):
        """program_error gives just this, and the value is as it was."""
        kept = copy.deepcopy(value)
        self.assertEqual(sort_of(program_error(value)), sort_of(wanted))
        self.assertEqual(sort_of(value), sort_of(kept))

    def check_each(self, values, program_with, wanted):
        for value in values:
            with self.subTest(value=value):
                self.check(program_with(value), wanted)


class ExamplesTest(Kit):
    def test_the_example(self):
        self.check((("if", ("less", "n", 3), (("pay", "n"),), ()), ("stop",)), None)
        self.check((("if", ("rest", "n", 2, 2), (), ()),), (0, "statement"))
        self.check((("set", "pay", 1),), (0, "statement"))
        self.check((("repeat", 3, (("if", ("rest", "n", 2, 0), (), ()),)),), (None, "rests"))

    def test_the_deep_expression_of_the_text(self):
        self.check((("pay", ("plus", ("plus", "n", 1), 1)),), None)


class ProgramTest(Kit):
    def test_no_tuple(self):
        values = [value for value in ODD_VALUES if not isinstance(value, tuple)]
        self.check_each(values + [deep_list(20)], lambda value: value, (None, "program"))

    def test_the_empty_program(self):
        self.check((), None)

    def test_tuples_of_other_things(self):
        for value in ODD_VALUES + (deep_list(19), deep_tuple(19)):
            with self.subTest(value=value):
                self.check((value,), (0, "statement"))
                self.check((("stop",), value), (1, "statement"))

    def test_other_things_of_the_package(self):
        self.check(((("pay", "n"),), ()), (0, "statement"))
        self.check(((0, 1, None, -1, (-1, -1)),), (0, "statement"))
        self.check(((1, 1), (2, -1)), (0, "statement"))
        self.check((0, (), (), ()), (0, "statement"))
        self.check((None, "places"), (0, "statement"))
        self.check(("stop",), (0, "statement"))
        self.check(("pay", 1), (0, "statement"))

    def test_large_values(self):
        self.check(tuple([("stop",)] * 1999), (None, "places"))
        self.check(tuple([("stop",)] * 1998 + [("stop", 1)]), (1998, "statement"))
        self.check((("pay", tuple([1] * 3900)),), (0, "statement"))


class NamesTest(Kit):
    def test_names_that_are_set(self):
        self.check_each(GOOD_NAMES, lambda name: (("set", name, 0),), None)

    def test_names_in_expressions(self):
        self.check_each(GOOD_NAMES, lambda name: (("pay", name),), None)

    def test_no_names_to_be_set(self):
        bad = BAD_NAMES + NO_TEXTS + (0, 1, BIG, ("plus", 1, 1))
        self.check_each(bad, lambda name: (("set", name, 0),), (0, "statement"))


class ExpressionsTest(Kit):
    def test_in_each_place(self):
        for program_with in PLACES_OF_EXPRESSIONS:
            self.check_each(GOOD_EXPRESSIONS, program_with, None)

    def test_wrong_in_each_place(self):
        for program_with in PLACES_OF_EXPRESSIONS:
            self.check_each(BAD_EXPRESSIONS, program_with, (0, "statement"))

    def test_all_integers_near_the_ends(self):
        for number in range(-120, 121):
            wanted = None if -99 <= number <= 99 else (0, "statement")
            self.check((("pay", number),), wanted)
            self.check((("pay", ("plus", 0, ("minus", number, 0))),), wanted)

    def test_all_factors_near_the_ends(self):
        for factor in range(-15, 16):
            wanted = None if -9 <= factor <= 9 else (0, "statement")
            self.check((("set", "a", ("times", factor, "n")),), wanted)


PLACES_OF_EXPRESSIONS = (
    lambda one: (("set", "a", one),),
    lambda one: (("pay", one),),
    lambda one: (("if", ("less", one, 0), (), ()),),
    lambda one: (("if", ("less", 0, one), (), ()),),
    lambda one: (("if", ("rest", one, 2, 0), (), ()),),
    lambda one: (("if", ("not", ("not", ("less", 0, one))), (), ()),),
    lambda one: (("if", ("not", ("rest", one, 6, 5)), (), ()),),
)


class TestsTest(Kit):
    def test_good_ones(self):
        self.check_each(GOOD_TESTS, lambda test: (("if", test, (), ()),), None)

    def test_wrong_ones(self):
        self.check_each(BAD_TESTS, lambda test: (("if", test, (), ()),), (0, "statement"))

    def test_all_rests(self):
        for by in range(-2, 10):
            for rest in range(-3, 10):
                wanted = None if 2 <= by <= 6 and 0 <= rest < by else (0, "statement")
                self.check((("if", ("rest", "n", by, rest), (), ()),), wanted)


class StatementsTest(Kit):
    def test_good_ones(self):
        self.check_each(GOOD_STATEMENTS, lambda statement: (statement,), None)

    def test_wrong_ones(self):
        self.check_each(BAD_STATEMENTS, lambda statement: (statement,), (0, "statement"))

    def test_all_times(self):
        for times in range(-3, 15):
            self.check((("repeat", times, ()),), None if 1 <= times <= 8 else (0, "statement"))

    def test_wrong_ones_in_each_block(self):
        for bad in BAD_STATEMENTS:
            with self.subTest(bad=bad):
                self.check((("stop",), bad, ("stop",)), (1, "statement"))
                self.check((("repeat", 2, (("stop",), bad)), ("stop",)), (2, "statement"))
                self.check((("if", ("less", 0, 1), (bad,), (("stop",),)),), (1, "statement"))
                self.check((("if", ("less", 0, 1), (("stop",),), (("stop",), bad)),), (3, "statement"))
                self.check(nest(3, (bad,)), (3, "statement"))
                self.check((("if", ("less", 0, 1), nest(2, (("stop",),)), nest(2, (bad,))),), (6, "statement"))


if __name__ == "__main__":
    unittest.main()
