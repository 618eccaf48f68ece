"""Tables: what leads from a room to a room."""

from staybars.entries import check_entry, check_prime, check_room, check_width, is_entry, is_width
from staybars.errors import BadTable
from staybars.kinds import is_tuple_long
from staybars.spans import back_rows, base_of, entry_led_to, fetched_base
from staybars.sums import led_behind, led_by, same_rows


def is_table(p, a, b, value):
    """Whether any value is a table from width a to width b."""
    check_room(p, a)
    check_width(b)
    return is_tuple_long(value, a) and all([is_entry(p, b, row) for row in value])


def check_table(p, a, b, value):
    """Raise BadTable for any value that is no table from width a to width b."""
    if not is_table(p, a, b, value):
        raise BadTable(value)


def check_any_table(p, b, value):
    """Raise BadTable for any value that is no table from any width to width b."""
    if not isinstance(value, tuple) or not is_width(len(value)):
        raise BadTable(value)
    check_table(p, len(value), b, value)


def check_table_to(p, b, table):
    """Raise BadPrime for p, BadWidth for b, then BadTable for what is no table to b."""
    check_room(p, b)
    check_any_table(p, b, table)


def led_entry(p, b, table, entry):
    """Where a table to width b leads an entry of its first room."""
    check_table_to(p, b, table)
    check_entry(p, len(table), entry)
    return led_by(p, b, table, entry)


def table_behind(p, b, c, first, second):
    """The table that leads as first, to width b, and then second, from b to c, do."""
    check_room(p, b)
    check_width(c)
    check_any_table(p, b, first)
    check_table(p, b, c, second)
    return led_behind(p, c, first, second)


def same_table(width):
    """The table that leads each entry of a room to itself."""
    check_width(width)
    return same_rows(width)


def mirrored_table(p, b, table):
    """The table from width b whose row i is what the table's rows have at place i."""
    check_table_to(p, b, table)
    return tuple([tuple([row[place] for row in table]) for place in range(b)])


def width_of(p, b, table):
    """The width of the part of all entries to which the table leads."""
    check_table_to(p, b, table)
    return len(base_of(p, table))


def lost_part(p, b, table):
    """The part of the table's first room of what it leads to nought."""
    check_table_to(p, b, table)
    return fetched_base(p, b, table, ())


def entry_to(p, b, table, entry):
    """Any entry that the table leads to this one of the room of width b, or None."""
    check_table_to(p, b, table)
    check_entry(p, b, entry)
    return entry_led_to(p, b, table, entry)


def back_of(p, table):
    """Of a table from a width to itself the table that leads back, or None."""
    check_prime(p)
    if not isinstance(table, tuple) or not is_width(len(table)):
        raise BadTable(table)
    check_table(p, len(table), len(table), table)
    return back_rows(p, table)
