"""Integers as arguments and as words of a text."""

# No integer of a text is longer, and Python refuses to read very long ones.
MOST_DIGITS = 80


def is_integer(value):
    """Return whether this value is an integer, not True or False."""
    return isinstance(value, int) and not isinstance(value, bool)


def is_within(value, least, most):
    """Return whether this value is an integer, not True or False, from least to most."""
    return is_integer(value) and least <= value <= most


def read_integer(word):
    """Return the integer that these digits tell, None if they tell none; needless zeros may stand."""
    digits = word.removeprefix("-")
    if len(digits) > MOST_DIGITS or not digits.isascii() or not digits.isdigit():
        return None
    return int(word)
