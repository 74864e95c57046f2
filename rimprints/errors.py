"""The refusals: one class for each kind, all of them side by side under PrintError."""


class PrintError(ValueError):
    """Any refusal."""


class NoPress(PrintError):
    """What was handed in is no press, or has too many parts."""


class TooLong(PrintError):
    """What was handed in comes round too late to be told."""


class NoText(PrintError):
    """What was handed in is not the text of a press."""


class NoPlace(PrintError):
    """What was handed in is no place."""


class NoLetter(PrintError):
    """What was handed in is no letter."""


class NoNumber(PrintError):
    """What was handed in is no number that is allowed there."""


class NoSeen(PrintError):
    """What was handed in is no seen piece."""


class NoForm(PrintError):
    """A row of a script has no form."""


class NoName(PrintError):
    """A name of a script is not there."""


class NoneYet(PrintError):
    """There is nothing left to undo."""
