"""Tests of single values, whatever kind they are of."""


def is_number(value, low, high):
    """Whether the value is an integer from low to high."""
    # True and False are integers for Python, but not for the document.
    return isinstance(value, int) and not isinstance(value, bool) and low <= value <= high


def is_pair(value, many):
    """Whether the value is a tuple of two different ones of so many nodes."""
    if not isinstance(value, tuple) or len(value) != 2:
        return False
    u, v = value
    return is_number(u, 0, many - 1) and is_number(v, 0, many - 1) and u != v
