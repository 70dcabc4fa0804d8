"""Bounds of integers, for values that may be anything."""


def is_at_least(value, least):
    """True if the value is an integer of at least this much; True and False are no integers."""
    return isinstance(value, int) and not isinstance(value, bool) and value >= least


def is_between(value, least, most):
    """True if the value is an integer from least to most."""
    return is_at_least(value, least) and value <= most


def is_index(value, many):
    """True if the value is an integer from 0 to many - 1."""
    return is_between(value, 0, many - 1)
