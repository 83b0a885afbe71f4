"""Benches: a family, what was heard and a number of lies, which are edited, with undo and redo."""

from whichheld.bounds import BATCH, MAX_LIES
from whichheld.errors import (
    BadEdit, BadEdits, BadFamily, BadHeard, BadLies, BadNumber, BoxError, Busy, NoneLeft, NoProgram, NothingToRedo,
    NothingToUndo, NoVersion, Rejected, Settled, TooManyEdits)
from whichheld.families import family_error, signs_at
from whichheld.forms import is_between, is_integer
from whichheld.hearing import heard_error, left
from whichheld.plans import plan_of, tries

# How many values each edit takes behind its name.
VALUES_OF = {"add": 1, "drop": 1, "change": 2, "hear": 2, "allow": 1}


def is_edit(item):
    """Whether item, which may be any value, is a tuple of the name of an edit and as many values as it takes."""
    if not isinstance(item, tuple) or not item or not isinstance(item[0], str):
        return False
    return VALUES_OF.get(item[0]) == len(item) - 1


def checked_family(value):
    """The value, if it is a family; raises BadFamily(error) otherwise."""
    error = family_error(value)
    if error is not None:
        raise BadFamily(error)
    return value


def checked_heard(value):
    """The value, if it is what was heard; raises BadHeard(error) otherwise."""
    error = heard_error(value)
    if error is not None:
        raise BadHeard(error)
    return value


def checked_lies(value):
    """The value, if it is a number of lies; raises BadLies(value) otherwise."""
    if not is_between(value, 0, MAX_LIES):
        raise BadLies(value)
    return value


# A state is a tuple (family, heard, lies).


def state_behind(state, edit):
    """What the edit makes of the state; raises what the edit raises on account of its values."""
    family, heard, lies = state
    if edit[0] == "hear":
        return (family, checked_heard((*heard, edit[1:])), lies)
    if edit[0] == "allow":
        return (family, heard, checked_lies(edit[1]))
    if edit[0] == "add":
        return (checked_family(family + edit[1:]), heard, lies)
    index = edit[1]
    if not is_between(index, 0, len(family) - 1):
        raise NoProgram(index)
    # Behind the index stands the other program, or nothing if the edit is "drop".
    return (checked_family(family[:index] + edit[2:] + family[index + 1:]), heard, lies)


class Bench:
    """A family, what was heard and a number of lies, which are edited.

    Each step is a tuple of an edit that stands and the state behind it.
    """

    MOST_EDITS = 60
    FAIR = False

    def __init__(self, family, heard=(), lies=0):
        self.family = checked_family(family)
        self.heard = checked_heard(heard)
        self.lies = checked_lies(lies)
        self.first = (family, heard, lies)
        self.steps = ()
        self.undone = ()
        self.watched = False

    def __getitem__(self, at):
        if not is_between(at, 0, len(self.family) - 1):
            raise NoProgram(at)
        return self.family[at]

    def __setitem__(self, at, worth):
        self.change(at, worth)

    def __iadd__(self, other):
        self.add(other)
        return self

    def __isub__(self, other):
        self.drop(other)
        return self

    def __iter__(self):
        raise TypeError("a bench is not iterated over")

    def __len__(self):
        return len(self.steps)

    def __str__(self):
        return f"{len(self.family)} programs, {len(self.heard)} heard, {self.lies} lies, {len(self.steps)} edits"

    def __eq__(self, other):
        return (isinstance(other, Bench) and self.FAIR == other.FAIR and self.family == other.family
                and self.heard == other.heard and self.lies == other.lies)

    def add(self, program):
        """Puts the program at the end of the family; returns the new version, as all edits do."""
        return self.edited(("add", program))

    def drop(self, index):
        """Removes the program at the index."""
        return self.edited(("drop", index))

    def change(self, index, program):
        """Puts the program in the place of the one at the index."""
        return self.edited(("change", index, program))

    def hear(self, number, sign):
        """Puts the pair at the end of what was heard."""
        return self.edited(("hear", number, sign))

    def allow(self, lies):
        """Makes lies the number of lies."""
        return self.edited(("allow", lies))

    def try_next(self, sign):
        """Hears this sign for the number that is to be tried."""
        self.check_room()
        number = self.to_try()
        if number is None:
            raise Settled()
        return self.edited(("hear", number, sign))

    def undo(self):
        """Removes the last edit that stands; returns the new version."""
        self.check_idle()
        if not self.steps:
            raise NothingToUndo()
        self.undone = (*self.undone, self.steps[-1])
        self.take_steps(self.steps[:-1])
        return len(self.steps)

    def redo(self):
        """Puts the edit that was removed last in its place again; returns the new version."""
        self.check_idle()
        if not self.undone:
            raise NothingToRedo()
        self.take_steps((*self.steps, self.undone[-1]))
        self.undone = self.undone[:-1]
        return len(self.steps)

    def attempt(self, edits, *, watch=None):
        """Does the items of edits as one edit, until watch ends them; returns how many were done."""
        self.check_idle()
        if not isinstance(edits, (list, tuple)) or len(edits) > BATCH:
            raise BadEdits()
        # A watch may change the list, but not this copy.
        items = tuple(edits)
        for index, item in enumerate(items):
            if not is_edit(item):
                raise BadEdit(index)
        if not items:
            return 0
        self.check_room()
        return self.done_together(items, watch)

    def left(self):
        """The indexes of the programs that are left."""
        return left(self.family, self.heard, self.lies)

    def tries(self):
        """The fewest tries that settle."""
        return tries(self.family, self.heard, self.lies)

    def to_try(self):
        """A number with which a plan of the fewest tries begins, or None if nothing is to be tried."""
        plan = plan_of(self.family, self.heard, self.lies)
        return plan[0] if plan else None

    def told(self, number, *, version=None):
        """The signs of the family of this version on the number."""
        family = self.state(version=version)[0]
        if not is_integer(number):
            raise BadNumber(number)
        return signs_at(family, number)

    def state(self, *, version=None):
        """The (family, heard, lies) behind so many of the edits that stand, or behind all of them."""
        many = len(self.steps) if version is None else version
        if not is_between(many, 0, len(self.steps)):
            raise NoVersion(version)
        return self.steps[many - 1][1] if many > 0 else self.first

    def edits(self):
        """The tuple of the edits that stand, the first one first."""
        return tuple([edit for edit, state in self.steps])

    def check_idle(self):
        """Raises Busy() while a watch runs, or its result is asked."""
        if self.watched:
            raise Busy()

    def check_room(self):
        """Raises Busy() or TooManyEdits() if there is no room for one more edit."""
        self.check_idle()
        if len(self.steps) >= self.MOST_EDITS:
            raise TooManyEdits()

    def check_left(self, state):
        """Raises NoneLeft() if the bench is a fair one and no program is left in the state."""
        if self.FAIR and not left(*state):
            raise NoneLeft()

    def take_steps(self, steps):
        """Makes these the steps, and what the last one leads to what is there now."""
        self.steps = steps
        self.family, self.heard, self.lies = self.state()

    def edited(self, edit):
        """Does the edit; returns the new version."""
        self.check_room()
        state = state_behind(self.state(), edit)
        self.check_left(state)
        self.take_steps((*self.steps, (edit, state)))
        self.undone = ()
        return len(self.steps)

    def done_together(self, items, watch):
        """Does the items as one edit; returns how many. Whatever is raised, the bench is as it was before."""
        family, heard, lies, steps = self.family, self.heard, self.lies, self.steps
        many = None
        self.watched = True
        try:
            done = self.done_in_turn(items, watch)
            self.check_left(self.state())
            many = done
        finally:
            self.watched = False
            if many is None:
                self.family, self.heard, self.lies, self.steps = family, heard, lies, steps
        self.undone = ()
        return many

    def done_in_turn(self, items, watch):
        """Does the items one after another, until watch ends them; returns how many were done."""
        before = self.steps
        for index, item in enumerate(items):
            try:
                state = state_behind(self.state(), item)
            except (BoxError, NoProgram) as why:
                raise Rejected(index) from why
            # All that is done so far stands as one edit, also while watch runs.
            self.take_steps((*before, (("attempt", items[:index + 1]), state)))
            if watch is not None and watch(self):
                return index + 1
        return len(items)


class FairBench(Bench):
    """A bench on which in each version some program is left."""

    FAIR = True

    def __init__(self, family, heard=(), lies=0):
        Bench.__init__(self, family, heard, lies)
        self.check_left(self.state())
