"""The errors by which the program refuses what it is handed."""


class FoldError(ValueError):
    """Any refusal."""


class BadStrip(FoldError):
    """What was handed in as a strip is none."""


class BadOrder(FoldError):
    """What was handed in as an order is none of the strip."""


class NoFold(FoldError):
    """What was handed in as a move is none of the strip."""


class NothingDone(FoldError):
    """There is no move that could be taken back."""


class TooMany(FoldError):
    """The strip has more pieces than all orders are told for."""


class BadText(FoldError):
    """What was handed in as a text is no strip that is written."""
