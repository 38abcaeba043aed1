"""The refusals, each an error of its own under StockError."""


class StockError(ValueError):
    """Any refusal."""


class BadWare(StockError):
    """What was handed in is no ware."""


class BadPlace(StockError):
    """What was handed in is no place."""


class BadMany(StockError):
    """What was handed in is no amount."""


class TooFew(StockError):
    """Less is free than is asked for."""


class SamePlace(StockError):
    """Start and goal are the same place."""


class NoHold(StockError):
    """The number is none of a standing hold."""


class NoEntry(StockError):
    """What was handed in is no entry of a book."""


class NoLine(StockError):
    """The text is written so for no entry."""
