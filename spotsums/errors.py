"""The refusals: each kind of failure has a class of its own."""


class GameError(ValueError):
    """Any refusal."""


class NoWeb(GameError):
    """What was handed in as a web is none."""


class Ringed(GameError):
    """The web has a ring, so that play in it need not end."""


class NoRow(GameError):
    """What was handed in as a row is none."""


class NoMove(GameError):
    """What was handed in as a move is none in the row."""


class TooMany(GameError):
    """The web that was asked for would have more spots than a web may have."""
