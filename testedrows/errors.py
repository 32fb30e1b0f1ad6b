"""The refusals."""


class RowsError(ValueError):
    """Any refusal."""


class BadProgram(RowsError):
    """What is no program: the number of the first thing that can't be, or -1, and why it can't."""

    def __init__(self, at, why):
        self.at = at
        self.why = why


class BadTested(RowsError):
    """What is no tested program: the first bad piece and row, each -1 where there is none to name."""

    def __init__(self, piece, row):
        self.piece = piece
        self.row = row


class BadHanded(RowsError):
    """Other numbers than a program is handed."""


class BadFuel(RowsError):
    """What is no fuel."""


class BadWidth(RowsError):
    """What is no width of beats."""


class BadBeats(RowsError):
    """Beats that don't fit."""


class NotOne(RowsError):
    """A tested program of more than one piece, or one that goes elsewhere than to its end."""


class TooMany(RowsError):
    """A tested program that is too large for what is asked of it."""


class BadText(RowsError):
    """A text that can't be read: the place of the first word, or row, that can't stand there."""

    def __init__(self, place):
        self.place = place
