"""The refusals of the program, one class for each kind."""


class PackError(ValueError):
    """Any refusal."""


class BadBound(PackError):
    """A bound is no number from 0 to 1000."""


class BadRows(PackError):
    """No pack has these rows."""


class InRing(PackError):
    """A version would stand twice in a chain."""


class NoFit(PackError):
    """A change does not fit the text that it is done on."""


class NoVersion(PackError):
    """What is asked for is not the number of a kept version."""


class TooFar(PackError):
    """A chain would have more changes than the bound."""
