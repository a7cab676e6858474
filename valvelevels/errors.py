"""The errors that the program raises, each with the value that was wrong."""


class TankError(ValueError):
    """Any failure that the program names."""

    def __init__(self, value):
        self.value = value


class InvalidTank(TankError):
    """A tank, or a list of tanks, that is none."""


class InvalidStep(TankError):
    """A step that is none, or that cannot be done here."""


class UnknownTank(TankError):
    """A number of a tank that there is not."""


class UnknownStep(TankError):
    """An index of a step that there is not."""


class InvalidFraction(TankError):
    """A fraction that is none, or not one of those that may stand there."""


class InvalidPolynomial(TankError):
    """A polynomial that is none, or one that may not stand there."""


class InvalidPlace(TankError):
    """A place that is none."""


class InvalidRange(TankError):
    """A range, or a set of places, that is none."""


class InvalidClaim(TankError):
    """A claim, or a word for what is seen, that is none."""


class NothingToUndo(TankError):
    """There is no step to take back."""


class Unreadable(TankError):
    """A text that is not one of those that can be read."""
