"""The errors by which a program is refused."""


class MillError(ValueError):
    """A program is refused.

    No message tells a number of the program: Python makes no string of one that
    has too many digits, and raises an error of its own.
    """


class NoBox(MillError):
    """A box's number is none of those that a function has."""


class NoFunction(MillError):
    """A function is called, or was to be begun, that is not there."""


class NoLoop(MillError):
    """A leave or next stands in no loop of its function."""


class TooDeep(MillError):
    """Too many blocks or too many expressions stand within one another."""
