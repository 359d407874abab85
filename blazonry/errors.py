"""The refusals of this package."""


class ShieldError(ValueError):
    """Any refusal."""


class BadSize(ShieldError):
    """A pair of numbers that is no size."""


class BadDrawing(ShieldError):
    """Rows that are no drawing of the size."""


class BadNumber(ShieldError):
    """A number beyond those that are let."""


class BadSaying(ShieldError):
    """Words that are no saying; place numbers the first one that can't stand there."""

    def __init__(self, place):
        ShieldError.__init__(self, f"word {place} cannot stand there")
        self.place = place
