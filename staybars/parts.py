"""Parts of rooms, told by their bases."""

from staybars.entries import check_entry, check_room, check_width, is_entry
from staybars.errors import BadEntries, BadPart, NotWithin
from staybars.spans import base_of, fetched_base, grown_base, is_base_within, is_held
from staybars.spans import led_base, met_base, rest_rows, summed_base
from staybars.sums import same_rows
from staybars.tables import check_table_to


def is_part(p, width, value):
    """Whether any value is the base of a part of a room of this width."""
    check_room(p, width)
    if not isinstance(value, tuple) or not all([is_entry(p, width, row) for row in value]):
        return False
    return base_of(p, value) == value


def check_part(p, width, value):
    """Raise BadPart for any value that is no part, told by its base, of the room."""
    if not is_part(p, width, value):
        raise BadPart(value)


def check_two_parts(p, width, one, other):
    """Raise BadPrime and BadWidth for the room, then BadPart for the one, for the other."""
    check_room(p, width)
    check_part(p, width, one)
    check_part(p, width, other)


def part_of(p, width, entries):
    """The least part that holds some entries, a list or a tuple."""
    check_room(p, width)
    if not isinstance(entries, (list, tuple)):
        raise BadEntries(entries)
    for entry in entries:
        check_entry(p, width, entry)
    return base_of(p, entries)


def whole_room(width):
    """The part that is all of the room."""
    check_width(width)
    return same_rows(width)


def part_holds(p, width, piece, entry):
    """Whether a part holds an entry."""
    check_room(p, width)
    check_part(p, width, piece)
    check_entry(p, width, entry)
    return is_held(p, piece, entry)


def lies_within(p, width, one, other):
    """Whether each entry of the one part is one of the other."""
    check_two_parts(p, width, one, other)
    return is_base_within(p, one, other)


def sum_of(p, width, one, other):
    """The part of all sums of an entry of the one and an entry of the other."""
    check_two_parts(p, width, one, other)
    return summed_base(p, one, other)


def meet_of(p, width, one, other):
    """The part of the entries that both hold."""
    check_two_parts(p, width, one, other)
    return met_base(p, width, one, other)


def led_part(p, b, table, piece):
    """The part of all to which a table to width b leads the entries of a part."""
    check_table_to(p, b, table)
    check_part(p, len(table), piece)
    return led_base(p, b, table, piece)


def fetched_part(p, b, table, piece):
    """The part of all entries that a table leads into a part of the room of width b."""
    check_table_to(p, b, table)
    check_part(p, b, piece)
    return fetched_base(p, b, table, piece)


def check_within(p, width, smaller, greater):
    """Raise what is told for the two parts, then NotWithin if smaller is not within greater."""
    check_two_parts(p, width, smaller, greater)
    if not is_base_within(p, smaller, greater):
        raise NotWithin(smaller)


def rest_beyond(p, width, smaller, greater):
    """Any list of entries with which the base of the smaller part makes up the greater one."""
    check_within(p, width, smaller, greater)
    return rest_rows(p, smaller, greater)


def is_rest_beyond(p, width, smaller, greater, value):
    """Whether any value is such a list of entries as rest_beyond tells."""
    check_within(p, width, smaller, greater)
    if not isinstance(value, list) or len(smaller) + len(value) != len(greater):
        return False
    if not all([is_entry(p, width, entry) for entry in value]):
        return False
    base = smaller
    for entry in value:
        base = grown_base(p, base, entry)
    return base == greater
