"""What counts as an integer, and what as a name."""

_MOST_SIGNS = 8
_LETTERS = "abcdefghijklmnopqrstuvwxyz"
_DIGITS = "0123456789"


def is_integer(value):
    """Whether the value is an integer; True and False are none."""
    return isinstance(value, int) and not isinstance(value, bool)


def is_between(value, least, most):
    """Whether the value is an integer from least to most."""
    return is_integer(value) and least <= value <= most


def is_from(value, least):
    """Whether the value is an integer from least on."""
    return is_integer(value) and value >= least


def is_name(value):
    """Whether the value is a letter from a to z with up to seven such letters or digits behind it."""
    if not isinstance(value, str) or not 1 <= len(value) <= _MOST_SIGNS:
        return False
    return value[0] in _LETTERS and all([sign in _LETTERS or sign in _DIGITS for sign in value])


def is_one_of(value, names):
    """Whether the value is one of these names."""
    # What is no string could claim to be equal to one.
    return isinstance(value, str) and value in names


def is_pair(value):
    """Whether the value is a tuple of two."""
    return isinstance(value, tuple) and len(value) == 2


def is_task(value):
    """Whether the value is a pair of a name and an integer from 1 on."""
    return is_pair(value) and is_name(value[0]) and is_from(value[1], 1)
