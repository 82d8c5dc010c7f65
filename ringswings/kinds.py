"""Questions about any value: is it a number, a height, a tolerance, a pair of numbers, a swing?"""

from ringswings.bounds import LIMIT


def is_number(value):
    """Return whether value is an int that is not a bool."""
    return isinstance(value, int) and not isinstance(value, bool)


def is_height(value):
    """Return whether value is a number from -LIMIT to LIMIT."""
    return is_number(value) and -LIMIT <= value <= LIMIT


def is_tolerance(value):
    """Return whether value is a number from 0 to LIMIT."""
    return is_number(value) and 0 <= value <= LIMIT


def is_number_pair(value):
    """Return whether value is a tuple of two numbers."""
    return isinstance(value, tuple) and len(value) == 2 and is_number(value[0]) and is_number(value[1])


def is_swing(value):
    """Return whether value is a tuple (low, high) of two heights with low < high."""
    return is_number_pair(value) and is_height(value[0]) and is_height(value[1]) and value[0] < value[1]
