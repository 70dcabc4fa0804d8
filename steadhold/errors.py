"""The refusals of the program's functions."""


class SteadError(ValueError):
    """A function refused what it was asked for, and changed nothing."""


class NotValid(SteadError):
    """An argument is outside of its bounds."""
