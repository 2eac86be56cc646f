"""The errors that the program raises."""


class WardenError(ValueError):
    """The base class of all of them."""


class SourceError(WardenError):
    """A source has a fault or a problem: its position and its text."""

    def __init__(self, line, column, what):
        super().__init__(f"line {line}, column {column}: {what}")
        self.line = line
        self.column = column
        self.what = what


class NotFound(WardenError):
    """There is no requirement, or no warden, with the name that was passed."""

    def __init__(self, kind, name):
        super().__init__(f"there is no {kind} {name}")
        self.kind = kind
        self.name = name


class TooMany(WardenError):
    """There are more of something than a limit allows."""

    def __init__(self, what):
        super().__init__(f"too many {what}")
        self.what = what


class NotARun(WardenError):
    """What was passed is not a run of the plant."""


class WrongChoices(WardenError):
    """There are not as many choices as ticks."""


class OtherReadings(WardenError):
    """Two monitors are not over the same list of readings."""


class NoFit(WardenError):
    """No run fits the readings."""


class NameTaken(WardenError):
    """A fleet has a warden with this name."""


class NoRequirement(WardenError):
    """A source has no require item."""


class BadMonitor(WardenError):
    """A text is not that of a monitor: the first line that is not understood, or 0."""

    def __init__(self, line):
        super().__init__(f"not a monitor, line {line}")
        self.line = line
