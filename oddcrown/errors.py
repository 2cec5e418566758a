"""The errors that the program raises."""


class CrownError(ValueError):
    """The base class of all errors of the program."""


class BadSize(CrownError):
    """Something does not have as many parts as it must have."""


class BadMark(CrownError):
    """A mark is not a whole number from 0 to 9."""


class BadKind(CrownError):
    """A place is neither a draw nor ours nor theirs."""


class BadNumber(CrownError):
    """A value is not a number of the form that is asked for."""


class BadChance(CrownError):
    """A chance is not greater than 0, or the sum of the chances is not 1."""


class BadTarget(CrownError):
    """A value is not a place of the game."""


class BadStrategy(CrownError):
    """A strategy tells something wrong at the place `place`."""

    def __init__(self, place):
        self.place = place


class BadText(CrownError):
    """The form of a text is wrong at this line and column."""

    def __init__(self, line, column):
        self.line = line
        self.column = column


class UnknownName(CrownError):
    """The name at this line and column is not that of a place."""

    def __init__(self, line, column):
        self.line = line
        self.column = column


class TwoNames(CrownError):
    """This line begins with the name of a line before it."""

    def __init__(self, line):
        self.line = line


class NotHere(CrownError):
    """The deed is not one for a place of this kind."""


class NoBranch(CrownError):
    """The place has no branch with this number."""


class NotSo(CrownError):
    """The branch is struck out already, or it is not struck out."""


class LastBranch(CrownError):
    """The branch is the only one of the place that is not struck out."""


class NothingToUndo(CrownError):
    """No deed is in force that could be undone."""


class NothingToRedo(CrownError):
    """No deed is undone that could be done again."""


class BadEntry(CrownError):
    """The entry at the place `place` of a journal cannot be done."""

    def __init__(self, place):
        self.place = place
