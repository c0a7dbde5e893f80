"""The exceptions of the package."""


class KindError(ValueError):
    """The base of all exceptions of the package."""


class NoSystem(KindError):
    """A value is not a system."""


class NoLog(KindError):
    """A value is not a log of the system."""


class NoState(KindError):
    """A value is not a state of the system, or not one that is reachable."""


class NoOperation(KindError):
    """A value is not the position of an operation of the system."""


class NoMoves(KindError):
    """A value is not a tuple of moves between the reachable states."""


class NoEffect(KindError):
    """A value is not an Effect, or not a tuple of one or more of them."""


class NoMatch(KindError):
    """The systems of several values differ."""


class NoNumber(KindError):
    """A value is not a number, or not one that may stand here."""


class NotRight(KindError):
    """The kinds of a system are not right."""


class NotSteady(KindError):
    """Some operation of a system may not be delivered again."""


class NoText(KindError):
    """A value is not the text of a system."""


class NothingDone(KindError):
    """There is no change to take back."""


class TooMany(KindError):
    """An amount is over its limit."""

    def __init__(self, amount, limit):
        self.amount = amount
        self.limit = limit
