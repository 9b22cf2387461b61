"""The errors of the package: one class for each kind of failure."""


class CherrystoneError(ValueError):
    """What all errors of the package have in common."""


class BadGraph(CherrystoneError):
    """What was given is not a graph."""


class BadFamily(CherrystoneError):
    """What was given is not a family of sets."""


class BadArgument(CherrystoneError):
    """A function does not take this argument."""


class BadText(CherrystoneError):
    """A text is not the textual form of a graph."""


class TooLarge(CherrystoneError):
    """The question is larger than the function answers."""


class BadLine(CherrystoneError):
    """The desk does not take this line."""
