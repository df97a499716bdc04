"""The refusals of the program."""


class RowError(ValueError):
    """Any refusal."""


class TooMany(RowError):
    """There are, or would be, more than are told or kept; the field many says how many."""

    def __init__(self, many):
        RowError.__init__(self, f"too many: {many}")
        self.many = many


class NoCrew(RowError):
    """These rowers can't be parted in two crews."""


class NoTrial(RowError):
    """These two pieces are no trial."""


class NoRower(RowError):
    """This is no rower, or there are none."""


class Twice(RowError):
    """The name is there already."""


class NoName(RowError):
    """Nobody has this name."""


class NoPiece(RowError):
    """This is no piece."""


class NoNumber(RowError):
    """No piece has this number."""


class NothingLeft(RowError):
    """There is nothing to take back, or to do again."""


class NoText(RowError):
    """Nothing is written so."""


class NoRow(RowError):
    """A desk knows no such row."""
