"""The kinds of values that the whole package speaks of."""

from math import gcd

LETTERS = "abcdefghijklmnopqrstuvwxyz"
DIGITS = "0123456789"
LONGEST_TEXT = 8


def is_integer(value):
    """Whether any value is an INTEGER: True and False are none."""
    return isinstance(value, int) and not isinstance(value, bool)


def is_count(value):
    """Whether any value is a COUNT."""
    return is_integer(value) and value >= 0


def is_text(value):
    """Whether any value is a TEXT."""
    if not isinstance(value, str) or len(value) > LONGEST_TEXT:
        return False
    return all([sign in LETTERS or sign in DIGITS for sign in value])


def is_name(value):
    """Whether any value is a NAME."""
    return is_text(value) and value != "" and value[0] in LETTERS


def is_fraction(value):
    """Whether any value is a FRACTION."""
    if not isinstance(value, tuple) or len(value) != 2:
        return False
    if not is_integer(value[0]) or not is_integer(value[1]):
        return False
    return value[1] >= 1 and gcd(value[0], value[1]) == 1


def is_list(value):
    """Whether any value will do where a list is passed."""
    return isinstance(value, (list, tuple))


def is_number_below(value, many):
    """Whether any value is a COUNT below so many."""
    return is_count(value) and value < many


def is_pair(value, one, other):
    """Whether any value is a tuple of a COUNT below the one number and a COUNT below the other one."""
    if not isinstance(value, tuple) or len(value) != 2:
        return False
    return is_number_below(value[0], one) and is_number_below(value[1], other)
