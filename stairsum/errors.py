"""The refusals, each straight under StairError, so that none is caught as another one."""


class StairError(ValueError):
    """Any refusal."""


class NoStair(StairError):
    """What was handed in as a stair is none."""


class NoCount(StairError):
    """What was handed in as a count is none."""


class TooMany(StairError):
    """More things were asked for than are told or kept."""


class NoPower(StairError):
    """What was handed in as a power is none."""


class NoBounds(StairError):
    """What was handed in as bounds is none."""


class NoSteps(StairError):
    """The stair does not go by low and high steps."""


class NoRise(StairError):
    """The stair does not rise."""


class NoPartner(StairError):
    """The stair has no partner."""


class NoRing(StairError):
    """The corners make no ring."""


class NoCoins(StairError):
    """What was handed in as coins is none."""


class NoEntry(StairError):
    """The ledger has no entry of that number."""


class NothingLeft(StairError):
    """There is nothing left to take back."""


class NoText(StairError):
    """What was handed in is no text of the form."""


class NoName(StairError):
    """What was told as a name is none, or nothing stands by it."""


class NoRow(StairError):
    """The desk knows no such row."""


class NoWalker(StairError):
    """The desk has no walker."""
