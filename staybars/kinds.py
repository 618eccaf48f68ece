"""Kinds of values, told strictly: True and False are no integers."""


def is_whole(value):
    """Whether any value is an integer."""
    return isinstance(value, int) and not isinstance(value, bool)


def is_from_to(value, low, high):
    """Whether any value is an integer from low to high."""
    return is_whole(value) and low <= value <= high


def is_tuple_long(value, many):
    """Whether any value is a tuple of so many things."""
    return isinstance(value, tuple) and len(value) == many


def is_stretch_of(places, value):
    """Whether any value is a tuple (a, b) of integers with 0 <= a <= b < places."""
    if not is_tuple_long(value, 2):
        return False
    a, b = value
    return is_from_to(b, 0, places - 1) and is_from_to(a, 0, b)


def is_like(wanted, value):
    """Whether any value is equal to lists and tuples of integers, kind by kind."""
    if isinstance(wanted, int):
        return is_whole(value) and value == wanted
    if isinstance(wanted, list) != isinstance(value, list) or isinstance(wanted, tuple) != isinstance(value, tuple):
        return False
    if len(wanted) != len(value):
        return False
    return all([is_like(one, other) for one, other in zip(wanted, value)])
