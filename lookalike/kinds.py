"""Integers, numbers, sequences and names.

Python holds True equal to 1 and 1.0, so no value is compared before its kind
is known.
"""

DIGITS = "0123456789"
NAME_SIGNS = "abcdefghijklmnopqrstuvwxyzABCDEFGHIJKLMNOPQRSTUVWXYZ0123456789_"


def is_integer(value):
    """Whether any value is an integer."""
    return isinstance(value, int) and not isinstance(value, bool)


def is_number(value):
    """Whether any value is an integer from 0 on."""
    return is_integer(value) and value >= 0


def is_sequence(value):
    """Whether any value is a list or a tuple."""
    return isinstance(value, (list, tuple))


def is_tuple_of(value, many):
    """Whether any value is a tuple of so many things."""
    return isinstance(value, tuple) and len(value) == many


def are_numbers(value):
    """Whether any value is a tuple of numbers."""
    return isinstance(value, tuple) and all(is_number(part) for part in value)


def is_name(value):
    """Whether any value is a name."""
    if not isinstance(value, str) or value == "" or value[0] in DIGITS:
        return False
    return all(sign in NAME_SIGNS for sign in value)


def is_ascending(things):
    """Whether each of these things, of kinds that can be compared, is less than the next one."""
    return all(things[k] < things[k + 1] for k in range(len(things) - 1))
