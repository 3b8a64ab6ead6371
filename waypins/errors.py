"""The refusals: one class for each kind of thing that something handed in is none of."""


class PinError(ValueError):
    """Any refusal of this package."""


class NoBoard(PinError):
    """It is no board."""


class NoPins(PinError):
    """It is no rising tuple of pins' numbers, or holds one that it may not hold."""


class NoPin(PinError):
    """It is no pin's number, or not one that may stand there."""


class NoLook(PinError):
    """It is no look on this board."""


class NoNumber(PinError):
    """It is no whole number, or none that may stand there."""


class NoStand(PinError):
    """It is no stand on this board."""


class NoRow(PinError):
    """It is no row of pins' numbers."""


class NotLaid(PinError):
    """There is no line on the table, or none that has met a pin."""


class NoDeed(PinError):
    """There is no deed that can be undone."""


class NoText(PinError):
    """It is no board's text."""


class NoLine(PinError):
    """It is no line that a desk is told."""


class TooFew(PinError):
    """There would be fewer than the least that there must be."""

    def __init__(self, many, least):
        super().__init__(f"there would be {many}, and at least {least} are needed")
        self.many = many
        self.least = least
