"""The refusals, each a class of its own under ReadError."""


class ReadError(ValueError):
    """What every refusal is."""


class NoGrammar(ReadError):
    """What was handed in is no grammar, or there is none."""


class NoText(ReadError):
    """A text is not of the form that is read; `row` tells where."""

    def __init__(self, row):
        ReadError.__init__(self, f"row {row}")
        self.row = row


class NoRow(ReadError):
    """What was handed in is no row."""


class NoPart(ReadError):
    """What was handed in is no part of the grammar."""


class NoTree(ReadError):
    """What was handed in tells no tree."""


class NoChart(ReadError):
    """What was handed in is no chart."""


class NoTable(ReadError):
    """What was handed in is no table, or there is none."""


class NoMachine(ReadError):
    """What was handed in is no machine."""


class NoDeed(ReadError):
    """What was asked for cannot be done."""


class TooMany(ReadError):
    """There is more than is told or kept."""
