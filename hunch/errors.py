"""The refusals of the program, a class for each kind."""


class HunchError(ValueError):
    """Any refusal."""


class Unread(HunchError):
    """A text that no program is written as."""


class NoTop(HunchError):
    """A number that is no place of a top."""
