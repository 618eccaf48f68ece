"""Kinds of values, told strictly: True and False are no integers."""


def is_whole(value):
    """Whether any value is an integer."""
    return isinstance(value, int) and not isinstance(value, bool)


def is_from_to(value, low, high):
    """Whether any value is an integer from low to high."""
    return is_whole(value) and low <= value <= high


def is_tuple_long(value, many):
    """Whether any value is a tuple of so many things."""
    return isinstance(value, tuple) and len(value) == many


def is_stretch_of(places, value):
    """Whether any value is a tuple (a, b) of integers with 0 <= a <= b < places."""
    if not is_tuple_long(value, 2):
        return False
    a, b = value
    return is_from_to(b, 0, places - 1) and is_from_to(a, 0, b)
