"""The errors of the package, all of them directly below RootfastError."""


class RootfastError(ValueError):
    """The base class of all errors."""


class BadNumber(RootfastError):
    """A fraction with 0 below the line."""


class BadText(RootfastError):
    """A text that is not the text of what is to be read."""


class NoPlace(RootfastError):
    """A place of a hunt at which there is no such box."""


class NoZero(RootfastError):
    """A point that is no such zero of a system."""


class NotUpright(RootfastError):
    """A polynomial in two variables that is not upright."""


class Endless(RootfastError):
    """A pair of polynomials whose resultant is 0."""


class BadLine(RootfastError):
    """A line of a text for the desk that is no command."""

    def __init__(self, line):
        self.line = line
