"""Promise 4: the bounds of a whole program, and the order of its errors."""

import copy
import random
import unittest

from whichheld.programs import program_error, weight
from kit import nest, sort_of

STOP = ("stop",)
LESS = ("if", ("less", "n", 0), (), ())
REST = ("if", ("rest", "n", 2, 1), (), ())
NOT_LESS = ("if", ("not", ("less", "n", 0)), (), ())
NOT_REST = ("if", ("not", ("not", ("rest", "n", 2, 1))), (), ())
BAD = ("pay", 100)


def many(count, statement=STOP):
    return tuple([statement] * count)


def within(statement):
    """The statement in each kind of block."""
    return (
        (statement,), (("repeat", 1, (statement,)),),
        (("if", ("rest", 0, 2, 0), (statement,), ()),), (("if", ("rest", 0, 2, 0), (), (statement,)),),
    )


class BoundsTest(unittest.TestCase):
    def check(self, value, wanted):
        self.assertEqual(sort_of(program_error(value)), sort_of(wanted))

    def test_places(self):
        self.check(many(24), None)
        self.check(many(25), (None, "places"))
        self.check((("repeat", 1, many(23)),), None)
        self.check((("repeat", 1, many(24)),), (None, "places"))
        self.check((("if", ("less", 0, 1), many(11), many(12)),), None)
        self.check((("if", ("less", 0, 1), many(12), many(12)),), (None, "places"))
        self.check(nest(3, many(21)), None)
        self.check(nest(3, many(22)), (None, "places"))

    def test_weight(self):
        for times, count, more, wanted in ((8, 3, 5, None), (8, 3, 6, 1), (2, 14, 1, None), (2, 14, 2, 1),
                                           (1, 23, 0, None), (7, 4, 1, None), (7, 4, 2, 1), (8, 4, 0, 1)):
            with self.subTest((times, count, more)):
                program = (("repeat", times, many(count)),) + many(more)
                self.check(program, wanted and (None, "weight"))

    def test_weight_of_nested_blocks(self):
        self.check((("repeat", 2, (("repeat", 6, many(2)), STOP)), STOP), None)
        self.check((("repeat", 2, (("repeat", 6, many(2)), STOP)), STOP, STOP), (None, "weight"))
        self.check((("repeat", 4, (("if", ("less", 0, 1), many(3), many(3)),)), STOP), (None, "comparings"))
        self.check((("repeat", 4, (("if", ("less", 0, 1), many(3), many(3)),)), STOP, STOP), (None, "weight"))
        self.check((("repeat", 2, (("if", ("less", 0, 1), many(6), many(7)),)), STOP), None)
        self.check((("repeat", 2, (("if", ("less", 0, 1), many(6), many(7)),)), STOP, STOP), (None, "weight"))
        self.check((("repeat", 8, (("repeat", 8, (("repeat", 8, ()),)),)),), (None, "weight"))

    def test_rests_and_comparings(self):
        for one, word in ((REST, "rests"), (NOT_REST, "rests"), (LESS, "comparings"), (NOT_LESS, "comparings")):
            with self.subTest(one):
                self.check((one, one), None)
                self.check((one, one, one), (None, word))
                self.check((("repeat", 2, (one,)),), None)
                self.check((("repeat", 3, (one,)),), (None, word))
                self.check((("repeat", 2, (one,)), one), (None, word))
                self.check((("repeat", 2, (("repeat", 1, (one,)),)),), None)
                self.check((("repeat", 2, (("repeat", 2, (one,)),)),), (None, word))
                self.check((("repeat", 8, ()), one, one), None)

    def test_tests_in_blocks_of_tests(self):
        for head, other, word in ((REST, LESS, "rests"), (LESS, REST, "comparings"),
                                  (NOT_REST, NOT_LESS, "rests"), (NOT_LESS, NOT_REST, "comparings")):
            with self.subTest(head):
                self.check(((*head[:2], (head,), ()),), None)
                self.check(((*head[:2], (head,), (head,)),), (None, word))
                self.check(((*head[:2], (), (head, head)),), (None, word))
                self.check(((*head[:2], (head, head), ()),), (None, word))
                self.check(((*head[:2], (other,), (other, head)),), None)
                self.check((("repeat", 2, ((*head[:2], (other,), ()),)),), None)
                self.check((("repeat", 2, ((*other[:2], (head,), (head,)),)),), (None, word))

    def test_both_kinds_side_by_side(self):
        self.check((LESS, REST, LESS, REST), None)
        self.check((LESS, REST, LESS, REST, LESS), (None, "comparings"))
        self.check((LESS, REST, LESS, REST, REST), (None, "rests"))

    def test_nest(self):
        self.check(nest(3, (STOP,)), None)
        self.check(nest(4, ()), None)
        self.check(nest(4, (STOP,)), (4, "nest"))
        self.check(nest(5, ()), (4, "nest"))
        for outer in within(("repeat", 1, (("if", ("less", 0, 1), (), (STOP,)),))):
            with self.subTest(outer):
                self.check(outer, None)
        deep = ("if", ("less", 0, 1), (("repeat", 1, (LESS, STOP)),), ())
        self.check((("repeat", 1, (deep,)),), None)
        self.check((("repeat", 1, (deep[:3] + ((("repeat", 1, (("repeat", 1, (STOP,)),)),),),)),), (7, "nest"))
        self.check((("repeat", 1, nest(3, (STOP,)) + (STOP,)),), (4, "nest"))


class OrderTest(unittest.TestCase):
    def check(self, value, wanted):
        kept = copy.deepcopy(value)
        self.assertEqual(sort_of(program_error(value)), sort_of(wanted))
        self.assertEqual(sort_of(value), sort_of(kept))

    def test_the_first_place_of_all(self):
        self.check((STOP, BAD, BAD), (1, "statement"))
        self.check((("repeat", 1, (STOP, BAD)), BAD), (2, "statement"))
        self.check((("if", ("less", 0, 1), (), (BAD,)), BAD), (1, "statement"))
        self.check((("if", ("less", 0, 1), (BAD,), (BAD,)),), (1, "statement"))
        self.check((("if", ("less", 0, 1), (STOP, STOP), (BAD,)),), (3, "statement"))
        self.check((("repeat", 9, (BAD,)),), (0, "statement"))
        self.check((("if", ("less", 0, 100), (BAD,), (BAD,)), BAD), (0, "statement"))
        self.check((("if", ("less", 0, 1), (BAD,), [BAD]),), (0, "statement"))

    def test_nest_ahead_of_statement_at_one_place(self):
        self.check(nest(4, (BAD,)), (4, "nest"))
        self.check(nest(4, (None,)), (4, "nest"))
        self.check(nest(4, ([],)), (4, "nest"))
        self.check(nest(4, (("repeat", 0, ()),)), (4, "nest"))
        self.check(nest(6, (BAD,)), (4, "nest"))

    def test_statement_ahead_of_nest_at_an_earlier_place(self):
        self.check((BAD,) + nest(4, (STOP,)), (0, "statement"))
        self.check(nest(3, (BAD, ("repeat", 1, (STOP,)))), (3, "statement"))
        self.check(nest(3, (("repeat", 9, (STOP,)),)), (3, "statement"))

    def test_nest_ahead_of_statement_at_a_later_place(self):
        self.check(nest(4, (STOP,)) + (BAD,), (4, "nest"))
        self.check(nest(3, (("repeat", 1, (STOP,)), BAD)), (4, "nest"))

    def test_faults_ahead_of_bounds(self):
        self.check(many(30) + (BAD,), (30, "statement"))
        self.check(many(30) + nest(4, (STOP,)), (34, "nest"))
        self.check((("repeat", 8, many(5)), BAD), (6, "statement"))
        self.check((REST, REST, REST, LESS, LESS, LESS, BAD), (6, "statement"))
        self.check((("repeat", 8, many(5)),) + nest(4, (STOP,)), (10, "nest"))

    def test_the_bounds_in_their_order(self):
        heavy = ("repeat", 8, many(4))
        self.check(many(25) + (heavy, REST, REST, REST, LESS, LESS, LESS), (None, "places"))
        self.check(many(25) + (heavy,), (None, "places"))
        self.check(many(25) + (REST, REST, REST), (None, "places"))
        self.check(many(25) + (LESS, LESS, LESS), (None, "places"))
        self.check((heavy, REST, REST, REST, LESS, LESS, LESS), (None, "weight"))
        self.check((heavy, REST, REST, REST), (None, "weight"))
        self.check((heavy, LESS, LESS, LESS), (None, "weight"))
        self.check((LESS, LESS, LESS, REST, REST, REST), (None, "rests"))
        self.check((("repeat", 3, (LESS, REST)),), (None, "rests"))


def random_expression(source, deep):
    pick = source.randrange(5) if deep else source.randrange(2)
    if pick == 0:
        return source.choice((0, -99, 99, 5, 100, True) if source.random() < 0.05 else (0, -99, 99, 5))
    if pick == 1:
        return source.choice(("n", "a", "abcdefgh") if source.random() < 0.97 else ("of", "A", ""))
    if pick == 2:
        return ("times", source.randint(-9, 9), random_expression(source, deep - 1))
    return (source.choice(("plus", "minus")), *[random_expression(source, deep - 1) for _ in range(2)])


def random_test(source):
    test = source.choice((
        ("less", random_expression(source, 2), random_expression(source, 2)),
        ("rest", random_expression(source, 1), 3, source.randint(0, 2)),
    ))
    for _ in range(source.choice((0, 0, 0, 1, 2, 2, 3) if source.random() < 0.2 else (0, 1))):
        test = ("not", test)
    return test


def random_block(source, depth):
    return tuple([random_statement(source, depth) for _ in range(source.choice((0, 1, 1, 2, 3)))])


def random_statement(source, depth):
    if source.random() < 0.01:
        return source.choice((None, (), ["stop"], ("stop", 1), ("repeat", 9, ()), ("if", ("less", 0, 1), ())))
    pick = source.randrange(7) if depth < 3 or source.random() < 0.1 else source.randrange(3)
    if pick == 0:
        return STOP
    if pick == 1:
        return ("pay", random_expression(source, 2))
    if pick == 2:
        return ("set", "a", random_expression(source, 2))
    if pick in (3, 4):
        return ("repeat", source.choice((1, 1, 2, 3)), random_block(source, depth + 1))
    return ("if", random_test(source), random_block(source, depth + 1), random_block(source, depth + 1))


def levels(expression):
    if not isinstance(expression, tuple):
        return 1
    return 1 + max(levels(part) for part in expression[1:])


def leaves(expression):
    if not isinstance(expression, tuple):
        return [expression]
    return [leaf for part in expression[1:] for leaf in leaves(part)]


def fine(expression):
    """Only the faults that random_expression makes are known here."""
    return levels(expression) <= 3 and not [
        leaf for leaf in leaves(expression) if leaf in (100, "of", "A", "") or leaf is True]


def taken_apart(test):
    """The number of "not", and the test behind them."""
    nots = 0
    while test[0] == "not":
        nots, test = nots + 1, test[1]
    return nots, test


def fine_test(test):
    nots, test = taken_apart(test)
    parts = test[1:] if test[0] == "less" else test[1:2]
    return nots <= 2 and all(fine(part) for part in parts)


def fine_statement(statement):
    """Only the faults that random_statement makes are known here."""
    if statement in (None, (), ["stop"], ("stop", 1), ("repeat", 9, ()), ("if", ("less", 0, 1), ())):
        return False
    if statement[0] in ("set", "pay"):
        return fine(statement[-1])
    return fine_test(statement[1]) if statement[0] == "if" else True


def unrolled(block, depth, faults, places):
    """Each statement as often as it counts; faults gets all faults, places the number of statements."""
    counted = []
    for statement in block:
        place = places[0]
        places[0] += 1
        if depth > 3:
            faults.append((place, "nest"))
        if not fine_statement(statement):
            faults.append((place, "statement"))
            continue
        counted.append(statement)
        for inner in statement[2:] if statement[0] in ("if", "repeat") else ():
            once = unrolled(inner, depth + 1, faults, places)
            counted += once * (statement[1] if statement[0] == "repeat" else 1)
    return counted


def expected_error(program):
    faults, places = [], [0]
    counted = unrolled(program, 0, faults, places)
    if faults:
        return faults[0], counted
    tests = [taken_apart(statement[1])[1][0] for statement in counted if statement[0] == "if"]
    for found, most, name in ((places[0], 24, "places"), (len(counted), 30, "weight"),
                              (tests.count("rest"), 2, "rests"), (tests.count("less"), 2, "comparings")):
        if found > most:
            return (None, name), counted
    return None, counted


class RandomTest(unittest.TestCase):
    def test_against_a_second_way_of_counting(self):
        source = random.Random(4)
        seen = {}
        for _ in range(6000):
            program = random_block(source, 0) + random_block(source, 0)
            wanted, counted = expected_error(program)
            self.assertEqual(program_error(program), wanted, program)
            if wanted is None or wanted[0] is None:
                self.assertEqual(weight(program), len(counted), program)
            kind = wanted and wanted[1]
            seen[kind] = seen.get(kind, 0) + 1
        self.assertEqual(len(seen), 7, seen)


if __name__ == "__main__":
    unittest.main()
