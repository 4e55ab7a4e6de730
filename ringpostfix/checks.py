"""Checks of single values that may be of any kind."""


def is_plain_integer(value):
    """Return whether the value is an int that is not a bool."""
    return isinstance(value, int) and not isinstance(value, bool)


def is_index(value, many):
    """Return whether the value is an integer from 0 to many - 1."""
    return is_plain_integer(value) and 0 <= value < many


def is_count(value):
    """Return whether the value is an integer from 0 on."""
    return is_plain_integer(value) and value >= 0
