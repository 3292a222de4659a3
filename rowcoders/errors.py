"""The errors of the package."""


class CoderError(ValueError):
    """Whatever the package refuses; each error below is a direct kind of it."""


class InvalidSize(CoderError):
    """The number of the signs is not 2 or 3."""


class InvalidChain(CoderError):
    """This is no chain of coders."""


class InvalidChains(CoderError):
    """This is no ascending tuple of 1 to 3 chains."""


class InvalidRow(CoderError):
    """This is no row."""


class InvalidCode(CoderError):
    """This is no code."""


class InvalidWritten(CoderError):
    """This is no list of lists of signs that were written."""


class InvalidSign(CoderError):
    """This is no sign."""


class InvalidCount(CoderError):
    """A number of signs is not an integer within its limits."""


class NoChain(CoderError):
    """No chain of those that are told writes this."""


class TooLong(CoderError):
    """A row would have too many signs."""


class NothingToUndo(CoderError):
    """There is nothing to undo or to redo."""


class ParseError(CoderError):
    """Nothing has this text."""
