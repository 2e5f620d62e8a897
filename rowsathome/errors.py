"""The errors that the package raises, one class for each kind of failure."""


class NoColumn(LookupError):
    """A string that ought to be a COLUMN is none."""

    def __init__(self, name):
        LookupError.__init__(self, f"no column is called {name}")
        self.name = name


class NoHouse(LookupError):
    """A number that ought to be a HOUSE is none."""

    def __init__(self, number):
        LookupError.__init__(self, f"no house has the number {number}")
        self.number = number


class NoSheet(LookupError):
    """A number that ought to be a SHEET is none."""

    def __init__(self, number):
        LookupError.__init__(self, f"no sheet has the number {number}")
        self.number = number


class NothingDone(LookupError):
    """There is no deed that can be taken back."""


class NoWord(LookupError):
    """A string that ought to be a WORD is none."""

    def __init__(self, word):
        LookupError.__init__(self, f"no answer is told by {word}")
        self.word = word


class BadLine(ValueError):
    """A line of a text is not as it has to be."""

    def __init__(self, number):
        ValueError.__init__(self, f"line {number} is not well written")
        self.number = number


class BadText(ValueError):
    """A piece of a text is not as it has to be."""

    def __init__(self, piece):
        ValueError.__init__(self, f"piece {piece} is not well written")
        self.piece = piece


class CanNot(ValueError):
    """What is asked for can not be told or done."""


class Known(ValueError):
    """A name that ought to be new is there already."""

    def __init__(self, name):
        ValueError.__init__(self, f"{name} is known already")
        self.name = name


class Unfit(ValueError):
    """What is handed in does not fit."""
