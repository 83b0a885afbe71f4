"""Promise 12: Bench, its edits, undo and redo, its queries, len, str and ==; promise 2 (f)."""

import copy
import random
import unittest

from whichheld import bounds
from whichheld.benches import Bench, FairBench
from whichheld.errors import (
    BadFamily, BadHeard, BadLies, BadNumber, Busy, NoProgram, NothingToRedo, NothingToUndo, NoVersion, Settled,
    TooManyEdits)
from whichheld.families import family_error, signs_at
from whichheld.hearing import left
from whichheld.plans import plan_holds, tries
from fars import FAR_THREE, STARS
from heavies import FAR_ZERO, HEAVY, PAY, STOP
from kit import BIG, ODD_VALUES, deep_list, deep_tuple, nest, sort_of
from makers import random_family, random_program

LESS = (("pay", ("minus", "n", 2)),)
TWO = (PAY, LESS)
NO_PROGRAM = (("pay", 100),)
NO_INDEXES = (*[value for value in ODD_VALUES if type(value) is not int or not 0 <= value < 2], 2, 5, -2, (), (0,), [0], "0",
              deep_list(20), deep_tuple(20))


def done(bench, edit):
    """Does the edit that an item of edits() tells."""
    if edit[0] == "attempt":
        return bench.attempt(edit[1])
    return getattr(bench, edit[0])(*edit[1:])


class Kit(unittest.TestCase):
    def check_state(self, bench, family, heard, lies, version):
        self.assertEqual(sort_of((bench.family, bench.heard, bench.lies)), sort_of((family, heard, lies)))
        self.assertEqual(sort_of(bench.state()), sort_of((family, heard, lies)))
        self.assertEqual(len(bench), version)
        self.assertEqual(str(bench), f"{len(family)} programs, {len(heard)} heard, {lies} lies, {version} edits")

    def kept(self, bench):
        """All that can be seen of the bench."""
        undone = 0
        shown = [bench.family, bench.heard, bench.lies, len(bench), str(bench), bench.edits()]
        shown.extend([bench.state(version=version) for version in range(len(bench) + 1)])
        while True:
            try:
                bench.redo()
            except NothingToRedo:
                break
            undone += 1
            shown.extend([bench.state(), bench.edits()])
        for _ in range(undone):
            bench.undo()
        return sort_of(shown)

    def check_raises(self, bench, wanted, call):
        """That the call raises an error with this class and these fields, and changes nothing."""
        before = self.kept(bench)
        with self.assertRaises(type(wanted)) as caught:
            call()
        self.assertIs(type(caught.exception), type(wanted))
        self.assertEqual(sort_of(list(vars(caught.exception).items())), sort_of(list(vars(wanted).items())))
        self.assertEqual(self.kept(bench), before)
        return caught.exception


class MakingTest(Kit):
    def test_attributes(self):
        self.check_state(Bench(TWO), TWO, (), 0, 0)
        self.check_state(Bench(TWO, ((1, 1),)), TWO, ((1, 1),), 0, 0)
        self.check_state(Bench(TWO, ((1, 1),), 1), TWO, ((1, 1),), 1, 0)
        self.check_state(Bench(TWO, lies=1), TWO, (), 1, 0)
        self.check_state(Bench(family=TWO, heard=((BIG, -1),) * 40, lies=1), TWO, ((BIG, -1),) * 40, 1, 0)
        self.check_state(Bench((PAY,) * 5, ((1, 1), (1, 0))), (PAY,) * 5, ((1, 1), (1, 0)), 0, 0)

    def test_most_edits(self):
        for thing in (Bench, FairBench, Bench(TWO), FairBench(TWO)):
            self.assertEqual(sort_of(thing.MOST_EDITS), sort_of(bounds.MAX_EDITS))
            self.assertEqual(thing.MOST_EDITS, 60)

    def test_bad_families(self):
        for kind in (Bench, FairBench):
            for value in (*ODD_VALUES, (), (PAY,) * 6, (PAY, None), (NO_PROGRAM,), [PAY], PAY, deep_list(20), deep_tuple(19),
                          (PAY, nest(5, PAY))):
                with self.assertRaises(BadFamily) as caught:
                    kind(value)
                self.assertEqual(sort_of(caught.exception.error), sort_of(family_error(value)))

    def test_bad_heard_and_bad_lies(self):
        for kind in (Bench, FairBench):
            for value, error in ((None, (None, "heard")), ([(1, 1)], (None, "heard")), (((1, 1), (1, True)), (1, "pair")),
                                 (((1, 1),) * 41, (None, "many")), (1, (None, "heard")), (((1, 2),) * 41, (0, "pair"))):
                with self.assertRaises(BadHeard) as caught:
                    kind(TWO, value)
                self.assertEqual(sort_of(caught.exception.error), sort_of(error))
            for value in (2, -1, True, False, None, "0", (), (0,), [1], BIG, {}, PAY, deep_list(20)):
                with self.assertRaises(BadLies) as caught:
                    kind(TWO, (), value)
                self.assertIs(caught.exception.lies, value)

    def test_the_first_of_several(self):
        for kind in (Bench, FairBench):
            self.assertRaises(BadFamily, kind, None, None, None)
            self.assertRaises(BadFamily, kind, (), ((1, 1),) * 41, 2)
            self.assertRaises(BadHeard, kind, TWO, None, None)
            self.assertRaises(BadHeard, kind, TWO, ((1, 2),), 2)
            self.assertRaises(BadLies, kind, TWO, ((1, 0), (1, 1), (1, -1)), 2)

    def test_a_bench_is_not_iterated_over(self):
        self.assertRaises(TypeError, iter, Bench(TWO))
        self.assertRaises(TypeError, list, FairBench(TWO))


class EditTest(Kit):
    def test_each_edit(self):
        bench = Bench(TWO)
        for call, family, heard, lies in (
                (lambda: bench.add(()), (PAY, LESS, ()), (), 0), (lambda: bench.drop(0), (LESS, ()), (), 0),
                (lambda: bench.change(1, (STOP,)), (LESS, (STOP,)), (), 0), (lambda: bench.hear(4, 1), (LESS, (STOP,)), ((4, 1),), 0),
                (lambda: bench.hear(-BIG, -1), (LESS, (STOP,)), ((4, 1), (-BIG, -1)), 0),
                (lambda: bench.allow(1), (LESS, (STOP,)), ((4, 1), (-BIG, -1)), 1),
                (lambda: bench.drop(1), (LESS,), ((4, 1), (-BIG, -1)), 1), (lambda: bench.change(0, PAY), (PAY,), ((4, 1), (-BIG, -1)), 1),
                (lambda: bench.allow(0), (PAY,), ((4, 1), (-BIG, -1)), 0)):
            version = call()
            self.assertEqual(sort_of(version), sort_of(len(bench)))
            self.check_state(bench, family, heard, lies, version)
        self.assertEqual(sort_of(bench.edits()), sort_of((
            ("add", ()), ("drop", 0), ("change", 1, (STOP,)), ("hear", 4, 1), ("hear", -BIG, -1), ("allow", 1), ("drop", 1),
            ("change", 0, PAY), ("allow", 0))))

    def test_what_changes_nothing_is_an_edit(self):
        bench = Bench(TWO, (), 1)
        self.assertEqual([bench.allow(1), bench.change(0, PAY), bench.allow(1)], [1, 2, 3])
        self.check_state(bench, TWO, (), 1, 3)
        self.assertEqual(bench.edits(), (("allow", 1), ("change", 0, PAY), ("allow", 1)))

    def test_by_keywords(self):
        bench = Bench(TWO)
        self.assertEqual([bench.add(program=()), bench.drop(index=2), bench.change(index=0, program=STARS[0]),
                          bench.hear(number=3, sign=1), bench.allow(lies=1), bench.try_next(sign=0)], [1, 2, 3, 4, 5, 6])

    def test_bad_programs(self):
        for value in (*ODD_VALUES, NO_PROGRAM, [("pay", "n")], deep_list(20), deep_tuple(19), TWO, nest(5, PAY), ("pay", "n")):
            bench = Bench(TWO)
            bench.allow(1)
            bench.undo()
            for error, call in (
                    (family_error((*TWO, value)), lambda: bench.add(value)), (family_error((value, LESS)), lambda: bench.change(0, value)),
                    (family_error((PAY, value)), lambda: bench.change(1, value))):
                self.check_raises(bench, BadFamily(error), call)

    def test_too_many_and_too_few_programs(self):
        bench = Bench((PAY,) * 5)
        self.check_raises(bench, BadFamily((None, "many")), lambda: bench.add(PAY))
        self.check_raises(bench, BadFamily((None, "many")), lambda: bench.add(None))
        self.assertEqual(bench.change(4, LESS), 1)
        bench = Bench((PAY,))
        self.check_raises(bench, BadFamily((None, "many")), lambda: bench.drop(0))
        self.check_raises(bench, NoProgram(1), lambda: bench.drop(1))

    def test_no_program(self):
        for value in NO_INDEXES:
            bench = Bench(TWO)
            bench.allow(0)
            for call in (lambda: bench.drop(value), lambda: bench.change(value, PAY), lambda: bench.change(value, None),
                         lambda: bench[value]):
                error = self.check_raises(bench, NoProgram(value), call)
                self.assertIs(error.index, value)

    def test_bad_heard(self):
        heard = tuple([(at, 0) for at in range(39)])
        bench = Bench(TWO, heard)
        for number, sign in ((1, 2), (1, -2), (1, True), (1, None), (1, "+"), (True, 1), (None, 1), ("1", 1), (1, (1,)), ([1], 1),
                             ((1, 1), 1), (1, BIG), ({}, {}), (deep_list(18), 0), (0, deep_tuple(18))):
            self.check_raises(bench, BadHeard((39, "pair")), lambda: bench.hear(number, sign))
        self.assertEqual(bench.hear(7, 1), 1)
        self.check_raises(bench, BadHeard((None, "many")), lambda: bench.hear(7, 1))
        self.check_raises(bench, BadHeard((40, "pair")), lambda: bench.hear(7, 2))

    def test_bad_lies(self):
        bench = Bench(TWO)
        for value in (*[value for value in ODD_VALUES if type(value) is not int or value not in (0, 1)], 2, -2, (0,), [0], (), PAY):
            error = self.check_raises(bench, BadLies(value), lambda: bench.allow(value))
            self.assertIs(error.lies, value)

    def test_60_edits(self):
        bench = Bench(TWO, ((1, 1),))
        self.assertEqual([bench.allow(at % 2) for at in range(60)], list(range(1, 61)))
        for call in (lambda: bench.allow(0), lambda: bench.allow(None), lambda: bench.add(None), lambda: bench.drop(9),
                     lambda: bench.change(None, None), lambda: bench.hear(None, None), lambda: bench.try_next(0),
                     lambda: bench.try_next(None), lambda: bench.attempt([("allow", 0)]), lambda: bench.attempt([("allow", 2)])):
            self.check_raises(bench, TooManyEdits(), call)
        self.check_state(bench, TWO, ((1, 1),), 1, 60)
        self.assertEqual(bench.undo(), 59)
        self.assertEqual(bench.allow(1), 60)
        self.check_raises(bench, TooManyEdits(), lambda: bench.allow(0))
        self.assertEqual([bench.undo(), bench.redo()], [59, 60])
        self.assertEqual(len(bench.edits()), 60)


class OperatorTest(Kit):
    def test_items(self):
        bench = Bench((PAY, LESS, (STOP,)))
        self.assertEqual(sort_of([bench[0], bench[1], bench[2]]), sort_of([PAY, LESS, (STOP,)]))
        bench[1] = ()
        self.check_state(bench, (PAY, (), (STOP,)), (), 0, 1)
        self.assertEqual(bench.edits(), (("change", 1, ()),))
        for index in (3, -1, True, None, "0", (0,), 10 ** 59):
            self.check_raises(bench, NoProgram(index), lambda: bench[index])
        self.check_raises(bench, NoProgram(3), lambda: bench.__setitem__(3, None))
        self.check_raises(bench, BadFamily((0, (None, "program"))), lambda: bench.__setitem__(0, None))

    def test_plus_and_minus(self):
        bench = first = Bench(TWO)
        bench += ()
        self.assertIs(bench, first)
        self.check_state(bench, (PAY, LESS, ()), (), 0, 1)
        bench -= 0
        self.assertIs(bench, first)
        self.check_state(bench, (LESS, ()), (), 0, 2)
        self.assertEqual(bench.edits(), (("add", ()), ("drop", 0)))
        with self.assertRaises(BadFamily):
            bench += NO_PROGRAM
        with self.assertRaises(NoProgram):
            bench -= 2
        self.assertIs(bench, first)
        self.check_state(bench, (LESS, ()), (), 0, 2)
        held = [bench]
        held[0] += PAY
        self.assertIs(held[0], first)

    def test_operators_at_60_edits(self):
        bench = Bench(TWO)
        for _ in range(60):
            bench[0] = PAY
        for call in (lambda: bench.__setitem__(9, PAY), lambda: bench.__iadd__(None), lambda: bench.__isub__(9)):
            self.check_raises(bench, TooManyEdits(), call)

    def test_len_and_truth(self):
        bench = Bench(TWO)
        self.assertIs(bool(bench), False)
        bench.allow(0)
        self.assertIs(bool(bench), True)
        self.assertEqual(sort_of(len(bench)), sort_of(1))
        bench.undo()
        self.assertIs(bool(bench), False)

    def test_str(self):
        bench = Bench((PAY,), ((4, 1), (4, 1), (4, 0)), 1)
        self.assertEqual(sort_of(str(bench)), sort_of("1 programs, 3 heard, 1 lies, 0 edits"))
        bench.add(())
        bench.add(PAY)
        self.assertEqual(str(bench), "3 programs, 3 heard, 1 lies, 2 edits")

    def test_equal_ones(self):
        one, other = Bench(TWO, ((1, 1),)), Bench(TWO)
        self.assertIs(one == other, False)
        self.assertIs(one != other, True)
        other.hear(1, 1)
        self.assertIs(one == other, True)
        self.assertIs(one != other, False)
        other.allow(1)
        self.assertIs(one == other, False)
        other.allow(0)
        other.add(())
        self.assertIs(one == other, False)
        other.drop(2)
        self.assertIs(one == other, True)
        self.assertIs(one == one, True)

    def test_fair_ones(self):
        self.assertIs(FairBench(TWO) == FairBench(TWO), True)
        self.assertIs(FairBench(TWO) == Bench(TWO), False)
        self.assertIs(Bench(TWO) == FairBench(TWO), False)
        self.assertIs(Bench(TWO) != FairBench(TWO), True)
        self.assertIs(FairBench(TWO) != Bench(TWO), True)
        self.assertIs(FairBench(TWO) == FairBench((PAY,)), False)
        self.assertIs(FairBench(TWO) == FairBench(TWO, (), 1), False)

    def test_equal_to_nothing_else(self):
        class Anything:
            def __eq__(self, other):
                return True

        for value in (*ODD_VALUES, TWO, (TWO, (), 0), str(Bench(TWO)), Anything()):
            self.assertIs(Bench(TWO) == value, False)
            self.assertIs(Bench(TWO) != value, True)
            self.assertIs(FairBench(TWO) == value, False)


class UndoTest(Kit):
    def test_undo_and_redo(self):
        bench = Bench(TWO)
        states = [bench.state()]
        for edit in (("add", ()), ("hear", 3, 1), ("allow", 1), ("drop", 1), ("change", 0, LESS)):
            done(bench, edit)
            states.append(bench.state())
        for version in (4, 3, 2, 1, 0):
            self.assertEqual(bench.undo(), version)
            self.check_state(bench, *states[version], version)
        self.check_raises(bench, NothingToUndo(), bench.undo)
        for version in (1, 2, 3, 4, 5):
            self.assertEqual(bench.redo(), version)
            self.check_state(bench, *states[version], version)
        self.check_raises(bench, NothingToRedo(), bench.redo)

    def test_what_forgets(self):
        for edit in (("add", ()), ("hear", 3, 1), ("allow", 0), ("drop", 1), ("change", 0, PAY), ("attempt", [("allow", 0)]),
                     ("try_next", 0), ("redo",), ("undo",), ("attempt", [])):
            bench = Bench(TWO)
            for lies in (1, 0, 1):
                bench.allow(lies)
            bench.undo()
            bench.undo()
            getattr(bench, edit[0])(*edit[1:])
            if edit[0] in ("redo", "undo") or edit == ("attempt", []):
                bench.redo()
            else:
                self.check_raises(bench, NothingToRedo(), bench.redo)

    def test_what_does_not_forget(self):
        bench = Bench(TWO)
        bench.allow(1)
        bench.hear(3, 1)
        bench.undo()
        for call in (lambda: bench.add(None), lambda: bench.drop(2), lambda: bench.change(0, NO_PROGRAM), lambda: bench.hear(1, 2),
                     lambda: bench.allow(2), lambda: bench.try_next(7), lambda: bench.attempt([("allow", 0), ("allow", 2)]),
                     lambda: bench.attempt(7), lambda: bench.attempt([7]), lambda: bench.told(None), lambda: bench.state(version=2),
                     lambda: bench[2]):
            self.assertRaises((ValueError, LookupError), call)
        for query in (bench.left, bench.tries, bench.to_try, bench.edits, bench.state, lambda: bench.told(4), lambda: str(bench)):
            query()
        self.assertEqual(bench.redo(), 2)
        self.check_state(bench, TWO, ((3, 1),), 1, 2)

    def test_like_a_new_one(self):
        source = random.Random(81)
        for kind in (Bench, FairBench):
            for _ in range(40):
                first = (random_family(source, source.randint(1, 3)), (), source.randrange(2))
                bench = kind(*first)
                for _ in range(25):
                    try:
                        self.any_step(source, bench)
                    except (ValueError, LookupError):
                        pass
                    other = kind(*first)
                    for edit in bench.edits():
                        done(other, edit)
                    self.assertEqual(sort_of(other.state()), sort_of(bench.state()))
                    self.assertEqual(len(other), len(bench))
                    self.assertIs(other == bench, True)
                    self.assertEqual(sort_of(other.edits()), sort_of(bench.edits()))
                    for version in range(len(bench) + 1):
                        self.assertEqual(other.state(version=version), bench.state(version=version))

    def any_step(self, source, bench):
        index, number = source.randint(-1, 3), source.randint(-3, 3)
        pick = source.randrange(12)
        item = source.choice((("add", random_program(source)), ("drop", index), ("change", index, random_program(source)),
                              ("hear", number, source.randint(-1, 2)), ("allow", source.randint(0, 2))))
        if pick < 3:
            bench.undo()
        elif pick < 5:
            bench.redo()
        elif pick == 5:
            bench.try_next(source.choice((-1, 0, 1)))
        elif pick == 6:
            bench.attempt([("allow", 1), item, ("hear", number, 0)], watch=source.choice((None, lambda held: held.lies == 0)))
        else:
            done(bench, item)


class QueryTest(Kit):
    def test_left_and_tries(self):
        source = random.Random(82)
        for family in (STARS, FAR_THREE, TWO, *HEAVY, random_family(source, 4)):
            for heard in ((), ((3, 0),), ((3, 0), (4, 1)), ((1, 1), (1, 0), (1, -1))):
                for lies in (0, 1):
                    bench = Bench(family, heard, lies)
                    self.assertEqual(sort_of(bench.left()), sort_of(left(family, heard, lies)))
                    self.assertEqual(sort_of(bench.tries()), sort_of(tries(family, heard, lies)))

    def test_to_try(self):
        source = random.Random(83)
        for family in (STARS, FAR_THREE, TWO, *HEAVY, *[random_family(source, size) for size in (1, 2, 3, 4, 5) * 5]):
            for lies in (0, 1):
                bench = Bench(family, (), lies)
                most = bench.tries()
                while most > 0:
                    number = bench.to_try()
                    self.assertIs(type(number), int)
                    behind = [tries(family, (*bench.heard, (number, shown)), lies) for shown in (-1, 0, 1)]
                    self.assertEqual(max(behind), most - 1)
                    shown = source.choice((-1, 0, 1))
                    version = len(bench)
                    self.assertEqual(bench.try_next(shown), version + 1)
                    self.assertEqual(bench.edits()[-1], ("hear", number, shown))
                    self.assertEqual(bench.heard[-1], (number, shown))
                    most = bench.tries()
                    self.assertLessEqual(most, max(behind))
                self.assertIsNone(bench.to_try())
                self.check_raises(bench, Settled(), lambda: bench.try_next(0))
                self.check_raises(bench, Settled(), lambda: bench.try_next(None))

    def test_the_same_number_for_equal_benches(self):
        source = random.Random(84)
        for _ in range(30):
            family = random_family(source, 4)
            one = Bench(family, ((1, 1),), 1)
            other = Bench((PAY,), (), 0)
            for edit in (("allow", 1), *[("add", program) for program in family], ("drop", 0), ("hear", 1, 1)):
                done(other, edit)
            self.assertIs(one == other, True)
            self.assertEqual(sort_of(one.to_try()), sort_of(other.to_try()))

    def test_a_number_far_from_0(self):
        bench = Bench(FAR_THREE)
        self.assertEqual([bench.to_try(), bench.try_next(1), bench.left(), bench.tries(), bench.to_try()], [FAR_ZERO, 1, (1,), 0, None])
        self.assertEqual(bench.told(FAR_ZERO), (0, 1, -1))

    def test_try_next_and_bad_signs(self):
        bench = Bench(TWO, ((4, 1),))
        for value in (2, -2, True, False, None, "+", (1,), [1], BIG, {}):
            self.check_raises(bench, BadHeard((1, "pair")), lambda: bench.try_next(value))
        full = Bench(TWO, ((4, 1),) * 40)
        self.check_raises(full, BadHeard((None, "many")), lambda: full.try_next(1))
        self.check_raises(full, BadHeard((40, "pair")), lambda: full.try_next(2))
        for value in (None, 2, 1):
            settled = Bench((PAY,), ((4, 1),) * 40)
            self.check_raises(settled, Settled(), lambda: settled.try_next(value))

    def test_state_and_told_in_each_version(self):
        bench = Bench(TWO)
        states = [(TWO, (), 0)]
        for edit in (("add", ()), ("hear", 3, 1), ("allow", 1), ("attempt", [("drop", 1), ("hear", 4, 0), ("allow", 0)]), ("change", 0, LESS)):
            done(bench, edit)
            states.append((bench.family, bench.heard, bench.lies))
        for version, state in enumerate(states):
            self.assertEqual(sort_of(bench.state(version=version)), sort_of(state))
            for number in (-5, 0, 1, 2, BIG, FAR_ZERO):
                self.assertEqual(sort_of(bench.told(number, version=version)), sort_of(signs_at(state[0], number)))
        self.assertEqual(bench.state(), bench.state(version=5))
        self.assertEqual(bench.state(version=None), bench.state())
        self.assertEqual(bench.told(1), bench.told(1, version=None))
        self.assertEqual(bench.told(1), (-1, 0))
        bench.undo()
        self.check_raises(bench, NoVersion(5), lambda: bench.state(version=5))
        self.assertEqual(bench.state(), states[4])

    def test_no_version_and_bad_number(self):
        bench = Bench(TWO)
        bench.allow(1)
        for value in (*[value for value in ODD_VALUES if value is not None and (type(value) is not int or value not in (0, 1))], 2, -2, (),
                      (0,), [0], deep_tuple(20)):
            error = self.check_raises(bench, NoVersion(value), lambda: bench.state(version=value))
            self.assertIs(error.version, value)
            self.check_raises(bench, NoVersion(value), lambda: bench.told(1, version=value))
            self.check_raises(bench, NoVersion(value), lambda: bench.told(None, version=value))
        for value in (*[value for value in ODD_VALUES if type(value) is not int], (), (0,), [0], deep_tuple(20)):
            for version in (None, 0, 1):
                error = self.check_raises(bench, BadNumber(value), lambda: bench.told(value, version=version))
                self.assertIs(error.number, value)

    def test_edits(self):
        bench = Bench(TWO)
        self.assertEqual(sort_of(bench.edits()), sort_of(()))
        bench += ()
        bench[0] = LESS
        bench -= 2
        bench.attempt([("allow", 1), ("hear", 4, 1)])
        number = bench.to_try()
        wanted = [("add", ()), ("change", 0, LESS), ("drop", 2), ("attempt", (("allow", 1), ("hear", 4, 1)))]
        if number is not None:
            bench.try_next(-1)
            wanted.append(("hear", number, -1))
        self.assertEqual(sort_of(bench.edits()), sort_of(tuple(wanted)))
        bench.undo()
        bench.undo()
        self.assertEqual(sort_of(bench.edits()), sort_of(tuple(wanted[:-2])))

    def test_a_plan_begins_with_it(self):
        for lies in (0, 1):
            bench = Bench(STARS, (), lies)
            number, most = bench.to_try(), bench.tries()
            self.assertIs(plan_holds(STARS, (), lies, most, (number, *[
                whole_plan(Bench(STARS, ((number, shown),), lies)) for shown in (-1, 0, 1)])), True)


class CopyTest(Kit):
    def test_lists_that_are_changed_later(self):
        edits = [("allow", 1), ("hear", 4, 1)]
        bench = Bench(TWO)
        bench.attempt(edits)
        kept = copy.deepcopy(edits)
        edits.append(("allow", 0))
        self.assertEqual(bench.edits(), (("attempt", tuple(kept)),))
        edits.clear()
        self.assertEqual(bench.edits(), (("attempt", tuple(kept)),))

    def test_two_benches(self):
        one, other = Bench(TWO), Bench(TWO)
        one.allow(1)
        self.check_state(other, TWO, (), 0, 0)
        self.assertRaises(NothingToUndo, other.undo)

    def test_busy_is_never_raised_without_a_watch(self):
        bench = Bench(TWO)
        try:
            bench.attempt([("allow", 1), ("allow", 3)])
        except ValueError as error:
            self.assertNotIsInstance(error, Busy)
        self.assertEqual(bench.allow(1), 1)


def whole_plan(bench):
    """A plan that is made of what to_try returns for the bench, whatever is shown."""
    number = bench.to_try()
    if number is None:
        return ()
    return (number, *[whole_plan(Bench(bench.family, (*bench.heard, (number, shown)), bench.lies)) for shown in (-1, 0, 1)])


if __name__ == "__main__":
    unittest.main()
