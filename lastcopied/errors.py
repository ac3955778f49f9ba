"""The errors of the package, all of them directly under CopyError."""


class CopyError(ValueError):
    """Any error of this package."""


class InvalidRow(CopyError):
    """A value is not a row."""


class InvalidPhases(CopyError):
    """A value is not a list of phases of the row."""


class InvalidTime(CopyError):
    """A value is not a time, a fraction in its lowest terms."""


class InvalidNumber(CopyError):
    """A value is not an integer in the range that is asked for."""


class InvalidStretch(CopyError):
    """A value is not a list of steps."""


class InvalidPattern(CopyError):
    """A value is not a pattern of the row."""


class InvalidStep(CopyError):
    """A value is not a step, an integer from 0 on."""


class InvalidIndex(CopyError):
    """A value is not an index of what is numbered."""


class InvalidPeriod(CopyError):
    """A value is not a period."""


class InvalidLine(CopyError):
    """An operand is not a line."""


class OtherEnds(CopyError):
    """Two rows or lines have ends that do not fit."""


class Unheard(CopyError):
    """No pattern of the row has what is heard."""


class Full(CopyError):
    """As many steps are heard as may be."""


class NothingToUndo(CopyError):
    """There is no step that can be taken back."""


class InvalidCommand(CopyError):
    """A value is not a command of the console."""


class InvalidText(CopyError):
    """A text cannot be read; place is the number of the first word that cannot stand there."""

    def __init__(self, place):
        self.place = place
