"""Primes, and entries of rooms."""

from staybars.errors import BadEntry, BadNumber, BadPrime, BadWidth
from staybars.kinds import is_from_to, is_tuple_long, is_whole
from staybars.sums import back_by, noughts, plus, times

PRIMES = (2, 3, 5, 7)
GREATEST_WIDTH = 8


def is_prime(value):
    """Whether any value is one of the primes."""
    return is_whole(value) and value in PRIMES


def is_width(value):
    """Whether any value is a width of a room."""
    return is_from_to(value, 0, GREATEST_WIDTH)


def check_prime(p):
    """Raise BadPrime for any value that is no prime."""
    if not is_prime(p):
        raise BadPrime(p)


def check_width(width):
    """Raise BadWidth for any value that is no width."""
    if not is_width(width):
        raise BadWidth(width)


def check_room(p, width):
    """Raise BadPrime for p, then BadWidth for the width."""
    check_prime(p)
    check_width(width)


def is_entry(p, width, value):
    """Whether any value is an entry of a room of this width."""
    check_room(p, width)
    return is_tuple_long(value, width) and all([is_from_to(n, 0, p - 1) for n in value])


def check_entry(p, width, value):
    """Raise BadEntry for any value that is no entry of a room of this width."""
    if not is_entry(p, width, value):
        raise BadEntry(value)


def check_any_entry(p, value):
    """Raise BadEntry for any value that is no entry of any room."""
    if not isinstance(value, tuple) or not is_width(len(value)):
        raise BadEntry(value)
    check_entry(p, len(value), value)


def nought_entry(width):
    """The entry of noughts alone."""
    check_width(width)
    return noughts(width)


def added_entries(p, one, other):
    """The sum of two entries of one width."""
    check_prime(p)
    check_any_entry(p, one)
    check_entry(p, len(one), other)
    return plus(p, one, other)


def taken_times(p, number, entry):
    """An entry taken times any integer."""
    check_prime(p)
    if not is_whole(number):
        raise BadNumber(number)
    check_any_entry(p, entry)
    return times(p, number, entry)


def back_number(p, number):
    """The integer from 1 to p - 1 that, taken times number, leaves 1 modulo p."""
    check_prime(p)
    if not is_from_to(number, 1, p - 1):
        raise BadNumber(number)
    return back_by(p, number)
