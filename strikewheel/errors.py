"""The refusals, each straight under WheelError."""


class WheelError(ValueError):
    """Any refusal."""


class NoWord(WheelError):
    """A text that is no word."""


class NoWheel(WheelError):
    """A text that is no wheel."""


class NoSlack(WheelError):
    """A number that is no slack."""


class Lacks(WheelError):
    """A sign of the word stands on no wheel that could strike it."""


class NoPlace(WheelError):
    """A number that is no place of the wheel, or no such heads."""


class NoBook(WheelError):
    """A list that is no book."""


class NoOrder(WheelError):
    """A text that is no order of the book."""


class TooMany(WheelError):
    """More signs or places than the question allows, or none."""


class NoBank(WheelError):
    """Wheels that make no bank."""


class NoTurns(WheelError):
    """Turns that do not fit the wheel or the word."""


class NoText(WheelError):
    """Something that cannot be read as turns."""


class NoName(WheelError):
    """A name that is none, or that does not stand at the desk."""


class NoRow(WheelError):
    """Something that is none of the desk's rows."""


class NoDeed(WheelError):
    """No deed stands that could be taken back, or there is no striker."""
