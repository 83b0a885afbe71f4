"""Promise 12: attempt with its watch, and FairBench."""

import copy
import unittest

from whichheld.benches import Bench, FairBench
from whichheld.errors import (
    BadEdit, BadEdits, BadFamily, BadHeard, BadLies, BoxError, Busy, NoneLeft, NoProgram, NothingToRedo, NothingToUndo,
    Rejected, Settled, TooManyEdits)
from heavies import PAY, STOP
from kit import BIG, ODD_VALUES, deep_list, deep_tuple, sort_of
from test_benches import LESS, NO_PROGRAM, TWO, Kit as BenchKit

EDITS = (("add", ()), ("hear", 3, 1), ("drop", 1), ("allow", 1), ("change", 0, LESS))
BEHIND = ((LESS, ()), ((3, 1),), 1)


class Truth:
    """A result of a watch whose truth does what it is told."""

    def __init__(self, told):
        self.told = told

    def __bool__(self):
        return self.told()


class Odd(BaseException):
    """An error that is no Exception."""


def busy_calls(bench):
    """Each call that edits the bench."""
    return (
        lambda: bench.add(()), lambda: bench.add(None), lambda: bench.drop(0), lambda: bench.drop(None),
        lambda: bench.change(0, ()), lambda: bench.change(9, None), lambda: bench.hear(1, 1), lambda: bench.hear(None, None),
        lambda: bench.allow(0), lambda: bench.allow(None), lambda: bench.try_next(0), lambda: bench.try_next(None),
        bench.undo, bench.redo, lambda: bench.attempt([]), lambda: bench.attempt(None), lambda: bench.attempt([None]),
        lambda: bench.attempt([("allow", 0)]), lambda: bench.__setitem__(0, PAY), lambda: bench.__setitem__(9, None),
        lambda: bench.__iadd__(PAY), lambda: bench.__isub__(0))


class AttemptKit(BenchKit):
    def with_undone(self, kind=Bench):
        """A bench with an edit that stands and one that is removed."""
        bench = kind(TWO, ((5, 1),))
        bench.allow(1)
        bench.allow(0)
        bench.undo()
        return bench


class AttemptTest(AttemptKit):
    def test_one_edit_together(self):
        for edits in (list(EDITS), EDITS):
            bench = Bench(TWO)
            kept = copy.deepcopy(edits)
            self.assertEqual(sort_of(bench.attempt(edits)), sort_of(5))
            self.assertEqual(sort_of(edits), sort_of(kept))
            self.check_state(bench, *BEHIND, 1)
            self.assertEqual(sort_of(bench.edits()), sort_of((("attempt", EDITS),)))
            self.assertEqual(bench.undo(), 0)
            self.check_state(bench, TWO, (), 0, 0)
            self.assertEqual(bench.redo(), 1)
            self.check_state(bench, *BEHIND, 1)
            self.assertEqual(bench.state(version=0), (TWO, (), 0))

    def test_no_items(self):
        for edits in ([], ()):
            bench = self.with_undone()
            self.assertEqual(sort_of(bench.attempt(edits)), sort_of(0))
            self.assertEqual(bench.attempt(edits, watch=self.fail), 0)
            self.assertEqual(len(bench), 1)
            self.assertEqual(bench.redo(), 2)
        for _ in range(58):
            bench.allow(1)
        self.assertEqual(len(bench), 60)
        self.assertEqual(bench.attempt([], watch=self.fail), 0)

    def test_bad_edits(self):
        bench = self.with_undone()
        for value in (*[value for value in ODD_VALUES if not isinstance(value, (list, tuple))], None, 7, "add", {"add": ()},
                      [("allow", 0)] * 21, (("allow", 0),) * 21, [None] * 21, {0: ("allow", 0)}, (None,) * 3999):
            self.check_raises(bench, BadEdits(), lambda: bench.attempt(value))
            self.check_raises(bench, BadEdits(), lambda: bench.attempt(value, watch=self.fail))
        self.assertEqual(bench.attempt([("allow", 0)] * 20), 20)

    def test_bad_edit(self):
        bench = self.with_undone()
        for item in (*ODD_VALUES, (), ("add",), ("add", (), ()), ("drop",), ("drop", 0, 0), ("change", 0), ("change",),
                     ("change", 0, (), ()), ("hear", 1), ("hear", 1, 1, 1), ("allow",), ("allow", 0, 0), ("undo",), ("redo",),
                     ("try_next", 0), ("attempt", ()), ("attempt", [("allow", 0)]), ("left",), ("Add", ()), ("add ", ()), ("", ()),
                     (None, ()), (0, 0), (True, 0), (("add",), ()), (["add"], ()), ({}, ()), ([], 0, 0), ["add", ()], ["allow", 0],
                     ("allow", 0)[::-1], deep_list(18), deep_tuple(18), {"allow": 0}):
            for at in (0, 1, 19):
                items = [("allow", 0)] * at + [item] + [("allow", 0), None][:19 - at]
                self.check_raises(bench, BadEdit(at), lambda: bench.attempt(items))
                self.check_raises(bench, BadEdit(at), lambda: bench.attempt(tuple(items), watch=self.fail))

    def test_the_first_of_several(self):
        bench = Bench(TWO)
        self.check_raises(bench, BadEdit(1), lambda: bench.attempt([("allow", 2), ("allow",)]))
        for _ in range(60):
            bench.allow(0)
        self.check_raises(bench, BadEdits(), lambda: bench.attempt(None))
        self.check_raises(bench, BadEdit(0), lambda: bench.attempt([None]))
        self.check_raises(bench, TooManyEdits(), lambda: bench.attempt([("allow", 2)]))

    def test_without_regard_to_most_edits(self):
        bench = Bench(TWO)
        for _ in range(59):
            bench.allow(0)
        self.assertEqual(bench.attempt([("allow", 1)] * 20), 20)
        self.assertEqual(len(bench), 60)
        self.check_raises(bench, TooManyEdits(), lambda: bench.attempt([("allow", 1)]))

    def test_rejected(self):
        for item in (("add", None), ("add", NO_PROGRAM), ("add", [("pay", 1)]), ("drop", 2), ("drop", True), ("drop", None), ("change", 2, ()),
                     ("change", 0, None), ("change", None, None), ("hear", 1, 2), ("hear", True, 1), ("hear", None, None),
                     ("allow", 2), ("allow", True), ("allow", None), ("allow", [0])):
            for kind in (Bench, FairBench):
                bench = self.with_undone(kind)
                for at in (0, 1, 2):
                    items = [("hear", 6, 1), ("allow", 0)][:at] + [item, ("hear", 7, 1)]
                    self.check_raises(bench, Rejected(at), lambda: bench.attempt(items))
                    seen = []
                    self.check_raises(bench, Rejected(at), lambda: bench.attempt(items, watch=lambda held: seen.append(held.edits()[-1])))
                    self.assertEqual(seen, [("attempt", tuple(items[:many])) for many in range(1, at + 1)])
                self.assertEqual(bench.redo(), 2)

    def test_rejected_by_what_the_items_lead_to(self):
        bench = Bench((PAY,) * 4)
        self.check_raises(bench, Rejected(1), lambda: bench.attempt([("add", ()), ("add", ())]))
        self.check_raises(bench, Rejected(4), lambda: bench.attempt([("drop", 0)] * 3 + [("allow", 1), ("drop", 0)]))
        self.check_raises(bench, Rejected(2), lambda: bench.attempt([("drop", 3), ("drop", 0), ("change", 2, PAY)]))
        full = Bench(TWO, ((1, 1),) * 39)
        self.check_raises(full, Rejected(1), lambda: full.attempt([("hear", 1, 1)] * 2))
        self.assertEqual(full.attempt([("hear", 1, 1)]), 1)


class WatchTest(AttemptKit):
    def test_what_it_is_called_with(self):
        bench = self.with_undone()
        seen = []

        def watch(*held):
            self.assertEqual(len(held), 1)
            self.assertIs(held[0], bench)
            seen.append((bench.family, bench.heard, bench.lies, len(bench), bench.edits(), str(bench), bench.left(), bench.tries(),
                         bench.to_try(), bench.told(1), bench.state(), bench.state(version=1), bench[0], bool(bench), bench == bench))
            self.assertEqual(bench.state(version=2), bench.state())
            self.assertEqual(bench.told(1, version=2), bench.told(1))
            self.assertRaises(LookupError, bench.state, version=3)
            self.assertEqual(Bench(bench.family, bench.heard, bench.lies), bench)

        self.assertEqual(bench.attempt(EDITS, watch=watch), 5)
        self.assertEqual(len(seen), 5)
        other = Bench(TWO, ((5, 1),))
        other.allow(1)
        for at, row in enumerate(seen):
            getattr(other, EDITS[at][0])(*EDITS[at][1:])
            self.assertEqual(row[:5], (*other.state(), 2, (("allow", 1), ("attempt", EDITS[:at + 1]))))
            self.assertEqual(row[5], f"{len(other.family)} programs, {len(other.heard)} heard, {other.lies} lies, 2 edits")
            self.assertEqual(row[6:10], (other.left(), other.tries(), other.to_try(), other.told(1)))
            self.assertEqual(row[10:], (other.state(), (TWO, ((5, 1),), 1), other[0], True, True))

    def test_it_ends_them(self):
        for many in range(1, 6):
            for truth in (True, 1, "x", [0], (None,), Truth(lambda: True), BIG):
                bench = self.with_undone()
                calls = []
                self.assertEqual(sort_of(bench.attempt(EDITS, watch=lambda held: calls.append(0) or len(calls) == many and truth)),
                                 sort_of(many))
                self.assertEqual(len(calls), many)
                self.assertEqual(bench.edits(), (("allow", 1), ("attempt", EDITS[:many])))
                self.check_raises(bench, NothingToRedo(), bench.redo)
                self.assertEqual(bench.undo(), 1)
                self.assertEqual(bench.state(), (TWO, ((5, 1),), 1))
                self.assertEqual(bench.redo(), 2)
                self.assertEqual(bench.edits()[1], ("attempt", EDITS[:many]))

    def test_results_that_count_as_false(self):
        for truth in (False, 0, "", [], (), {}, None, Truth(lambda: False)):
            bench = Bench(TWO)
            self.assertEqual(bench.attempt(EDITS, watch=lambda held: truth), 5)
            self.check_state(bench, *BEHIND, 1)

    def test_the_bench_itself_counts_as_true(self):
        bench = Bench(TWO)
        self.assertEqual(bench.attempt(EDITS, watch=lambda held: held), 1)

    def test_the_truth_is_asked_behind_the_last_item_too(self):
        asked = []
        bench = Bench(TWO)
        self.assertEqual(bench.attempt(EDITS, watch=lambda held: Truth(lambda: asked.append(len(held.edits()[-1][1])) or False)), 5)
        self.assertEqual(asked, [1, 2, 3, 4, 5])

    def test_what_it_raises(self):
        for error in (ValueError("x"), KeyError(1), BoxError(), NoneLeft(), Rejected(7), BadLies(5), NoProgram(3), Odd(), KeyboardInterrupt(),
                      SystemExit(3), StopIteration(), GeneratorExit(), RuntimeError()):
            for at in (1, 3, 5):
                for kind in (Bench, FairBench):
                    for asked in (False, True):
                        self.check_error(kind, error, at, asked)

    def check_error(self, kind, error, at, asked):
        """That what a watch raises behind so many items propagates, from its call or when its result is asked."""
        bench = self.with_undone(kind)
        before = self.kept(bench)

        def fail():
            raise error

        def watch(held):
            if len(held.edits()[-1][1]) == at:
                return Truth(fail) if asked else fail()
            return False

        with self.assertRaises(BaseException) as caught:
            bench.attempt([("allow", 0), ("allow", 1)] * 3, watch=watch)
        self.assertIs(caught.exception, error)
        self.assertEqual(self.kept(bench), before)
        self.assertEqual(bench.redo(), 2)
        self.assertEqual(bench.add(()), 3)

    def test_busy(self):
        bench = self.with_undone()
        seen = []

        def try_all(held=None):
            for call in busy_calls(bench):
                state = (bench.state(), len(bench), bench.edits())
                with self.assertRaises(Busy):
                    call()
                self.assertEqual((bench.state(), len(bench), bench.edits()), state)
                seen.append(call)
            return False

        self.assertEqual(bench.attempt(EDITS, watch=try_all), 5)
        self.assertEqual(bench.attempt([("allow", 1)], watch=lambda held: Truth(try_all)), 1)
        self.assertEqual(len(seen), 6 * len(busy_calls(bench)))
        self.assertEqual(bench.allow(0), 4)
        self.assertEqual([bench.undo() for _ in range(4)], [3, 2, 1, 0])

    def test_busy_propagates(self):
        for call in range(len(busy_calls(Bench(TWO)))):
            bench = self.with_undone()
            before = self.kept(bench)
            with self.assertRaises(Busy):
                bench.attempt(EDITS, watch=lambda held: busy_calls(held)[call]())
            self.assertEqual(self.kept(bench), before)

    def test_busy_ahead_of_all_else(self):
        bench = Bench((PAY,), ((5, 1),) * 40)
        for _ in range(59):
            bench.allow(0)

        def watch(held):
            for call in busy_calls(bench):
                self.assertRaises(Busy, call)

        self.assertEqual(bench.attempt([("allow", 1)], watch=watch), 1)
        self.check_raises(bench, TooManyEdits(), lambda: bench.attempt([("allow", 1)], watch=watch))

    def test_not_busy_behind_it(self):
        bench = Bench(TWO)
        for watch in (lambda held: True, lambda held: False, lambda held: 1 // 0, lambda held: Truth(lambda: 1 // 0), lambda held: held.undo()):
            try:
                bench.attempt([("allow", 1), ("allow", 0)], watch=watch)
            except (ZeroDivisionError, Busy):
                pass
            version = len(bench)
            self.assertEqual(bench.add(()), version + 1)
            self.assertEqual(bench.undo(), version)
            self.assertEqual(bench.redo(), version + 1)
            self.assertEqual(bench.drop(0), version + 2)

    def test_not_busy_when_an_item_is_rejected(self):
        bench = Bench(TWO)
        self.assertRaises(Rejected, bench.attempt, [("allow", 2)], watch=self.fail)
        self.assertEqual(bench.allow(1), 1)

    def test_another_bench_is_not_busy(self):
        bench, other = Bench(TWO), Bench(TWO)
        self.assertEqual(bench.attempt(EDITS, watch=lambda held: other.hear(1, 1) and other.attempt([("allow", 1)]) == 9), 5)
        self.assertEqual(len(other), 10)

    def test_a_watch_that_changes_the_edits(self):
        edits = list(EDITS)
        bench = Bench(TWO)
        self.assertEqual(bench.attempt(edits, watch=lambda held: edits.clear()), 5)
        self.assertEqual(edits, [])
        self.check_state(bench, *BEHIND, 1)
        edits = [("allow", 1)]
        bench = Bench(TWO)
        self.assertEqual(bench.attempt(edits, watch=lambda held: edits.append(("allow", 7))), 1)
        self.assertEqual(bench.edits(), (("attempt", (("allow", 1),)),))

    def test_redo_without_the_watch(self):
        bench = Bench(TWO)
        calls = []
        bench.attempt(EDITS, watch=lambda held: calls.append(0))
        bench.undo()
        bench.redo()
        self.assertEqual(len(calls), 5)
        self.check_state(bench, *BEHIND, 1)

    def test_what_is_undone_can_be_seen_by_redo_alone(self):
        bench = self.with_undone()
        self.assertEqual(bench.attempt([("allow", 0)], watch=lambda held: False), 1)
        self.check_raises(bench, NothingToRedo(), bench.redo)


class FairBenchTest(BenchKit):
    def test_none_left_at_the_making(self):
        for heard, lies in ((((2, 1), (2, 0)), 0), (((0, 1),), 0), (((2, 1), (2, 0), (2, -1)), 1), (((-2, 1),) * 2, 1)):
            with self.assertRaises(NoneLeft):
                FairBench((PAY, ()), heard, lies)
            self.assertEqual(Bench((PAY, ()), heard, lies).left(), ())
        for heard, lies in ((((2, 1), (2, 0)), 1), ((), 0), (((-2, 1),), 1), (((2, 0),) * 40, 0)):
            self.check_state(FairBench((PAY, ()), heard, lies), (PAY, ()), heard, lies, 0)

    def test_at_each_edit(self):
        bench = FairBench((PAY, ()), ((2, 1),))
        bench.allow(0)
        bench.undo()
        for call in (lambda: bench.hear(2, 0), lambda: bench.hear(2, -1), lambda: bench.drop(0), lambda: bench.change(0, ()),
                     lambda: bench.change(0, (STOP,)), lambda: bench.__setitem__(0, ()), lambda: bench.__isub__(0)):
            self.check_raises(bench, NoneLeft(), call)
        self.assertEqual([bench.add(()), bench.drop(1), bench.change(1, LESS), bench.hear(2, 1), bench.allow(1), bench.hear(2, 0)],
                         [1, 2, 3, 4, 5, 6])
        self.check_raises(bench, NoneLeft(), lambda: bench.allow(0))
        self.assertEqual(bench.left(), (0,))

    def test_try_next(self):
        bench = FairBench((PAY, (), LESS))
        number = bench.to_try()
        signs = bench.told(number)
        for shown in (-1, 0, 1):
            if shown not in signs:
                self.check_raises(bench, NoneLeft(), lambda: bench.try_next(shown))
        self.assertEqual(bench.try_next(signs[0]), 1)
        bench = FairBench(((), (("pay", 1),)))
        self.check_raises(bench, NoneLeft(), lambda: bench.try_next(-1))
        self.check_raises(bench, BadHeard((0, "pair")), lambda: bench.try_next(2))

    def test_behind_all_other_errors(self):
        bench = FairBench((PAY, ()), ((2, 1),) * 39)
        self.check_raises(bench, NoProgram(2), lambda: bench.drop(2))
        self.check_raises(bench, BadFamily((0, (None, "program"))), lambda: bench.change(0, None))
        self.check_raises(bench, BadHeard((39, "pair")), lambda: bench.hear(2, 7))
        self.check_raises(bench, BadLies(2), lambda: bench.allow(2))
        self.check_raises(bench, NoneLeft(), lambda: bench.hear(2, 0))
        bench.hear(2, 1)
        self.check_raises(bench, BadHeard((None, "many")), lambda: bench.hear(2, 0))
        self.check_raises(bench, Settled(), lambda: bench.try_next(0))
        one = FairBench((PAY,), ((2, 1),))
        self.check_raises(one, BadFamily((None, "many")), lambda: one.drop(0))
        for _ in range(60):
            one.allow(0)
        self.check_raises(one, TooManyEdits(), lambda: one.hear(2, 0))
        self.check_raises(one, TooManyEdits(), lambda: one.attempt([("hear", 2, 0)]))

    def test_attempts_through_states_in_which_none_is_left(self):
        bench = FairBench((PAY, ()), ((2, 1),))
        seen = []
        self.assertEqual(bench.attempt([("hear", 2, 0), ("hear", 3, 1), ("allow", 1)], watch=lambda held: seen.append(held.left())), 3)
        self.assertEqual(seen, [(), (), (0,)])
        self.check_state(bench, (PAY, ()), ((2, 1), (2, 0), (3, 1)), 1, 1)
        self.assertEqual(bench.undo(), 0)
        self.assertEqual(bench.attempt([("drop", 0), ("add", PAY)]), 2)
        self.assertEqual(bench.left(), (1,))

    def test_none_left_in_the_end(self):
        bench = FairBench((PAY, ()), ((2, 1),))
        bench.allow(1)
        bench.undo()
        for items in ([("hear", 2, 0)], [("allow", 1), ("hear", 2, 0), ("allow", 0)], [("hear", 3, 1), ("drop", 0)],
                      [("drop", 0), ("hear", 3, 1)], [("change", 0, ())] * 3):
            calls = []
            self.check_raises(bench, NoneLeft(), lambda: bench.attempt(items))
            self.check_raises(bench, NoneLeft(), lambda: bench.attempt(items, watch=lambda held: calls.append(0)))
            self.assertEqual(len(calls), len(items))
        self.assertEqual(bench.redo(), 1)

    def test_a_watch_that_ends_them(self):
        items = [("hear", 2, 0), ("allow", 1), ("hear", 2, 0), ("allow", 0)]
        bench = FairBench((PAY, ()), ((2, 1),))
        for many in (1, 4):
            self.check_raises(bench, NoneLeft(), lambda: bench.attempt(items, watch=lambda held: len(held.edits()[-1][1]) == many))
        self.assertEqual(bench.attempt(items, watch=lambda held: len(held.edits()[-1][1]) == 2), 2)
        self.assertEqual(bench.left(), (0, 1))
        bench.undo()
        self.assertEqual(bench.attempt(items, watch=lambda held: len(held.edits()[-1][1]) == 3), 3)
        self.assertEqual(bench.left(), (1,))

    def test_rejected_ahead_of_none_left(self):
        bench = FairBench((PAY, ()), ((2, 1),))
        self.check_raises(bench, Rejected(1), lambda: bench.attempt([("hear", 2, 0), ("allow", 2)]))
        self.assertEqual(bench.attempt([], watch=self.fail), 0)

    def test_undo_and_redo(self):
        bench = FairBench((PAY, ()), ((2, 1),))
        bench.attempt([("hear", 2, 0), ("allow", 1)])
        bench.hear(2, 0)
        self.assertEqual([bench.undo(), bench.undo()], [1, 0])
        self.check_raises(bench, NothingToUndo(), bench.undo)
        self.assertEqual([bench.redo(), bench.redo()], [1, 2])
        self.check_raises(bench, NothingToRedo(), bench.redo)
        self.assertEqual(bench.left(), (1,))

    def test_it_is_a_bench(self):
        self.assertTrue(issubclass(FairBench, Bench))
        self.assertIsInstance(FairBench(TWO), Bench)
        bench = first = FairBench(TWO)
        bench += ()
        bench -= 0
        bench[0] = PAY
        self.assertIs(bench, first)
        self.check_state(bench, (PAY, ()), (), 0, 3)
        self.assertEqual([bench.told(4), bench.tries(), bench.left()], [(1, 0), 1, (0, 1)])


if __name__ == "__main__":
    unittest.main()
