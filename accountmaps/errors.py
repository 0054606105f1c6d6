"""The errors of the program, each with the thing that is at fault."""


class HouseError(ValueError):
    """Any fault that the program tells; the other classes say which."""

    def __init__(self, value):
        self.value = value


class InvalidName(HouseError):
    """A text that is no name."""


class DoubleName(HouseError):
    """A name that stood before."""


class UnknownName(HouseError):
    """A name that there is not, or that stands not ahead."""


class InvalidModulus(HouseError):
    """A modulus that is too small, or does not fit."""


class InvalidNumber(HouseError):
    """A number out of its range."""


class InvalidPair(HouseError):
    """One account where two are needed."""


class InvalidState(HouseError):
    """A list of integers of the wrong length."""


class InvalidForm(HouseError):
    """What is no form, or not one of the kind that is needed."""


class InvalidBox(HouseError):
    """What is no box."""


class InvalidCell(HouseError):
    """What is no cell."""


class InvalidWord(HouseError):
    """A word of a program that is none."""


class TooShort(HouseError):
    """A pile with fewer things than are needed."""


class InvalidRests(HouseError):
    """Rests that are none."""


class StillUsed(HouseError):
    """A script that does the one that was to go."""


class Locked(HouseError):
    """An account that is locked."""


class Clash(HouseError):
    """A state at which two logs part."""


class NothingToUndo(HouseError):
    """No call is left that could be taken back."""


class Unreadable(HouseError):
    """A text that nothing has."""
