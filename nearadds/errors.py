"""The errors of Nearadds: each keeps what it was made with in its attribute `value`."""


class NearError(ValueError):
    """What all other errors are."""

    def __init__(self, value):
        self.value = value


class InvalidModulus(NearError):
    """An integer is no modulus."""


class InvalidRule(NearError):
    """An object is no rule, or none that is meant."""


class InvalidProgram(NearError):
    """An object is no program, or none that is meant."""


class InvalidRow(NearError):
    """An object is no finite row."""


class InvalidRound(NearError):
    """An object is no round row."""


class InvalidNumber(NearError):
    """An integer is out of what is told."""


class InvalidFactor(NearError):
    """An object is no prime factor, or no list of them."""


class InvalidLooks(NearError):
    """An object is no tuple of looks."""


class InvalidCells(NearError):
    """An object is no tuple of so many values."""


class InvalidWalls(NearError):
    """An object is no kind of walls."""


class Unlike(NearError):
    """The later one of two values has another modulus than the first."""


class NoRule(NearError):
    """No rule fits."""


class NoRow(NearError):
    """No row stands ahead."""


class Unreadable(NearError):
    """An object is no text of a value."""


class InvalidCommand(NearError):
    """An object is no line of a desk."""


class Nothing(NearError):
    """There is no deed to take back."""


class NoPart(NearError):
    """No part is open."""


class NotReady(NearError):
    """There is no live row yet."""
