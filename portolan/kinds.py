"""Kinds of values."""


def is_integer(value):
    """Return True for an integer, but not for True and False."""
    return isinstance(value, int) and not isinstance(value, bool)


def are_integers(values):
    """Return True if all items of a tuple or list are integers."""
    for value in values:
        if not is_integer(value):
            return False
    return True
