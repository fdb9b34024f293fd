"""The errors of the package: each kind of failure has a class of its own below one base class."""


class TrunkError(ValueError):
    """The base class of all errors of the package."""


class TextFault(TrunkError):
    """A text is not a row of actions: the words of the fault, and the line and column where it is."""

    def __init__(self, line, column, words):
        super().__init__(f"line {line}, column {column}: {words}")
        self.line = line
        self.column = column
        self.words = words


class OutOfRange(TrunkError):
    """The argument of this name is out of its bounds."""

    def __init__(self, name):
        super().__init__(f"{name} is out of range")
        self.name = name


class NoSession(TrunkError):
    """There is no such session."""


class TooManySessions(TrunkError):
    """As many sessions are open as may be."""


class WrongPosition(TrunkError):
    """The position is not the number of entries."""


class JournalFull(TrunkError):
    """The journal has no room for more entries."""


class TooManyVersions(TrunkError):
    """The trunk has as many versions as it may have."""


class TooManyChecks(TrunkError):
    """As many checks are required as may be."""


class NoCheck(TrunkError):
    """No check of this name is required."""


class NotHeld(TrunkError):
    """The journal does not hold on the tree."""


class NotKept(TrunkError):
    """The disk holds no log."""


class NotOpen(TrunkError):
    """The log or the house can no longer be used."""


class LogFull(TrunkError):
    """The log has no room for the record."""


class PowerCut(TrunkError):
    """The power of the disk was cut."""


class NoLetter(TrunkError):
    """There is no such letter in the row."""


class AtWork(TrunkError):
    """The desk works already."""
