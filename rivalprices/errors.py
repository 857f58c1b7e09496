"""The errors that the program raises."""


class PriceError(ValueError):
    """The base class of all errors of the program."""


class InvalidRatio(PriceError):
    """No ratio can be made."""


class Singular(PriceError):
    """Equations have no solution, or more than one."""


class InvalidMarket(PriceError):
    """Products and rivalries make no market."""


class UnknownName(PriceError):
    """A product or an owner is not there."""


class DuplicateName(PriceError):
    """A product or a pair of products is told twice."""


class InvalidMerger(PriceError):
    """Owners can not merge in this way."""


class InvalidCommand(PriceError):
    """A session can not carry out a command."""


class InvalidLine(PriceError):
    """A line of a text is not written as it must be."""

    def __init__(self, line):
        PriceError.__init__(self, f"line {line}")
        self.line = line
