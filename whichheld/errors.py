"""The errors that the package raises, each with its fields as attributes."""


class BoxError(ValueError):
    """What a text, a family, what was heard, or an edit can be refused for."""


class BadText(BoxError):
    """The text is not the text of a family."""

    def __init__(self, line):
        self.line = line


class BadFamily(BoxError):
    """The value is not a family; error is the result of family_error."""

    def __init__(self, error):
        self.error = error


class BadHeard(BoxError):
    """The value is not what was heard; error is the result of heard_error."""

    def __init__(self, error):
        self.error = error


class BadLies(BoxError):
    """The value is not a number of lies."""

    def __init__(self, lies):
        self.lies = lies


class BadNumber(BoxError):
    """The value is not an integer."""

    def __init__(self, number):
        self.number = number


class Settled(BoxError):
    """There is nothing left to try."""


class NoneLeft(BoxError):
    """No program would be left."""


class Busy(BoxError):
    """A watch of the bench runs."""


class TooManyEdits(BoxError):
    """As many edits stand as may."""


class NothingToUndo(BoxError):
    """No edit stands."""


class NothingToRedo(BoxError):
    """No edit waits to be put back."""


class BadEdits(BoxError):
    """The value is not a list or tuple of few enough items."""


class BadEdit(BoxError):
    """The item at this index is not an edit."""

    def __init__(self, index):
        self.index = index


class Rejected(BoxError):
    """The item at this index raised an error."""

    def __init__(self, index):
        self.index = index


class NoPlace(LookupError):
    """The value is not a place of the program."""

    def __init__(self, place):
        self.place = place


class NoProgram(LookupError):
    """The value is not an index of the family."""

    def __init__(self, index):
        self.index = index


class NoVersion(LookupError):
    """The value is not a version of the bench."""

    def __init__(self, version):
        self.version = version
