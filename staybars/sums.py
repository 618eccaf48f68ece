"""Sums of entries and where tables lead, for arguments that are known to be right."""


def noughts(width):
    """The entry of noughts alone."""
    return (0,) * width


def one_at(width, place):
    """The entry that has 1 at a place and 0 elsewhere."""
    return noughts(place) + (1,) + noughts(width - place - 1)


def plus(p, one, other):
    """The sum of two entries."""
    return tuple([(a + b) % p for a, b in zip(one, other)])


def times(p, number, entry):
    """An entry taken times a number."""
    return tuple([number * n % p for n in entry])


def back_by(p, number):
    """The integer from 1 to p - 1 that, taken times a number that isn't 0, leaves 1."""
    back = 1
    while back * number % p != 1:
        back += 1
    return back


def led_by(p, b, table, entry):
    """Where a table to width b leads an entry."""
    total = noughts(b)
    for number, row in zip(entry, table):
        total = plus(p, total, times(p, number, row))
    return total


def led_behind(p, c, first, second):
    """The table that leads as first and then second, to width c, do."""
    return tuple([led_by(p, c, second, row) for row in first])


def same_rows(width):
    """The table that leads each entry of a room to itself."""
    return tuple([one_at(width, place) for place in range(width)])
