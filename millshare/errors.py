"""The refusals of the program, one class for each kind."""


class MillError(ValueError):
    """Any refusal."""


class NoMill(MillError):
    """These stretches are no mill, or a list of mills is empty."""


class NoCount(MillError):
    """A number of pieces, or of a piece, is out of reach."""


class NoPart(MillError):
    """A mill is no part of another one."""


class NoPrice(MillError):
    """A list of prices is empty."""


class NoName(MillError):
    """A name is none, is taken already, or is not known."""


class NoText(MillError):
    """A text is not what a mill is written as."""
