"""The errors of the package: each one keeps its fields just as they are handed in."""


class YardError(ValueError):
    """The base of all errors of this package."""


class BadText(YardError):
    """A text is wrong at a column, from 1 on; column 0: it is no string."""

    def __init__(self, column):
        self.column = column


class BadLine(YardError):
    """A text is wrong at a line and a column, from 1 on; 0 and 0: it is no string."""

    def __init__(self, line, column):
        self.line = line
        self.column = column


class BadNumber(YardError):
    """A number is none, or lies outside of what is asked for."""

    def __init__(self, what, number):
        self.what = what
        self.number = number


class BadRow(YardError):
    """A row is not of the kind that is asked for."""

    def __init__(self, row):
        self.row = row


class BadTie(YardError):
    """A tie is none of a yard, or one that can't stand there."""

    def __init__(self, tie):
        self.tie = tie


class BadRing(YardError):
    """The ring with this number, from 0 on, is none."""

    def __init__(self, index):
        self.index = index


class BadMove(YardError):
    """The move with this number, from 0 on, is none or can't be made."""

    def __init__(self, index):
        self.index = index


class BadName(YardError):
    """A value is no name."""

    def __init__(self, name):
        self.name = name


class NoName(YardError):
    """A value is not the name of anything that is there."""

    def __init__(self, name):
        self.name = name


class TakenName(YardError):
    """A name is that of something else already."""

    def __init__(self, name):
        self.name = name


class Unlike(YardError):
    """Something is not as it has to be."""

    def __init__(self, what):
        self.what = what


class TooMany(YardError):
    """There are more than the most that are allowed."""

    def __init__(self, most):
        self.most = most


class NotKept(YardError):
    """A promise is not kept, as the witness shows."""

    def __init__(self, promise, witness):
        self.promise = promise
        self.witness = witness


class NothingToUndo(YardError):
    """There is no edit to take back."""


class NothingToRedo(YardError):
    """There is no edit to make again."""
