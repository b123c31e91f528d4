"""The errors of the package."""


class WalkhandsError(ValueError):
    """The base class of all errors of the package."""


class NotStrip(WalkhandsError):
    """A shape is not a strip over another one; name tells which argument shows it."""

    def __init__(self, name):
        self.name = name


class DifferentEnds(WalkhandsError):
    """Two chains end with different shapes."""


class AmountTooGreat(WalkhandsError):
    """An amount would be above 1000."""


class LetterTooGreat(WalkhandsError):
    """A letter is greater than allowed."""


class TooManyLetters(WalkhandsError):
    """A tableau would have more than 200 letters."""


class NotAPair(WalkhandsError):
    """Two tableaux are not the pair of a word."""


class NotAFamily(WalkhandsError):
    """Walks are not a family of a rectangle of the board."""


class NotHeights(WalkhandsError):
    """Integers are not heights of a rectangle."""


class NoSuchRow(WalkhandsError):
    """There is no such row, or nothing can be taken out of it."""


class NoSuchColumn(WalkhandsError):
    """There is no such column."""


class NoSuchCorner(WalkhandsError):
    """There is no such corner."""


class WrongAmounts(WalkhandsError):
    """Amounts are not from 0 to 1000, or not as many as needed."""


class WrongSize(WalkhandsError):
    """There would be more than 8 or fewer than 1 rows or columns."""


class TooManyChanges(WalkhandsError):
    """There are 100 changes that can be undone."""


class WrongPlace(WalkhandsError):
    """The path of a stair does not go that way at an index."""
