"""Lines of rooms whose maps lead forward or back."""

from staybars.entries import GREATEST_WIDTH, is_prime, is_width
from staybars.errors import BadBases, BadLine, BadPair, BadPlace, BadStretch
from staybars.kinds import is_from_to, is_stretch_of, is_tuple_long
from staybars.spans import back_rows
from staybars.sums import led_behind, noughts
from staybars.tables import is_table

FORTH = ">"
BACK = "<"
MOST_PLACES = 17


def is_sign(value):
    """Whether any value is one of the two signs."""
    return isinstance(value, str) and value in (FORTH, BACK)


def is_line(value):
    """Whether any value is a line."""
    if not is_tuple_long(value, 3):
        return False
    p, widths, maps = value
    return is_prime(p) and are_widths(widths) and are_maps(p, widths, maps)


def are_widths(value):
    """Whether any value is a tuple of widths, one for each place of a line."""
    if not isinstance(value, tuple) or not 1 <= len(value) <= MOST_PLACES:
        return False
    return all([is_width(width) for width in value])


def are_maps(p, widths, value):
    """Whether any value is the maps between rooms of these widths."""
    if not is_tuple_long(value, len(widths) - 1):
        return False
    return all([is_map(p, widths[k], widths[k + 1], pair) for k, pair in enumerate(value)])


def is_map(p, here, there, value):
    """Whether any value is a sign and a table between two neighbours of these widths."""
    if not is_tuple_long(value, 2):
        return False
    sign, table = value
    if not is_sign(sign):
        return False
    a, b = along(sign, here, there)
    return is_table(p, a, b, table)


def along(sign, here, there):
    """What belongs to a place and what to the next one, in the way in which the map leads."""
    if sign == FORTH:
        return here, there
    return there, here


def other_sign(sign):
    """The sign that this one is not."""
    if sign == FORTH:
        return BACK
    return FORTH


def check_line(line):
    """Raise BadLine for any value that is no line."""
    if not is_line(line):
        raise BadLine(line)


def check_two_lines(one, other):
    """Raise BadLine for the one, then for the other."""
    check_line(one)
    check_line(other)


def check_line_stretch(line, first, last):
    """Raise BadStretch for any values that are no stretch of places of the line."""
    if not is_stretch_of(len(line[1]), (first, last)):
        raise BadStretch((first, last))


def check_line_place(line, k):
    """Raise BadPlace for any value that is no place of what is known to be a line."""
    if not is_from_to(k, 0, len(line[2])):
        raise BadPlace(k)


def places_of(line):
    """The number of the line's places."""
    check_line(line)
    return len(line[1])


def signs_in(line):
    """The tuple of the signs of what is known to be a line."""
    return tuple([sign for sign, _ in line[2]])


def signs_of(line):
    """The tuple of the line's signs."""
    check_line(line)
    return signs_in(line)


def leads_forth(line):
    """Whether all signs of what is known to be a line are the forth one."""
    return BACK not in signs_in(line)


def cut_line(line, first, last):
    """The line of the places from first to last, numbered anew from 0."""
    check_line(line)
    check_line_stretch(line, first, last)
    p, widths, maps = line
    return p, widths[first:last + 1], maps[first:last]


def mirrored_line(line):
    """The line with its places in the other sequence."""
    check_line(line)
    p, widths, maps = line
    turned = [(other_sign(sign), table) for sign, table in maps]
    return p, widths[::-1], tuple(turned[::-1])


def table_beside(first, b, second, c):
    """The table to width b + c that leads as first, to width b, beside second, to width c."""
    upper = [row + noughts(c) for row in first]
    lower = [noughts(b) + row for row in second]
    return tuple(upper + lower)


def lines_beside(one, other):
    """The line that has at each place the room of the one and that of the other together."""
    check_two_lines(one, other)
    p, widths, maps = one
    if p != other[0] or signs_in(one) != signs_in(other):
        raise BadPair((one, other))
    together = tuple([width + more for width, more in zip(widths, other[1])])
    if max(together) > GREATEST_WIDTH:
        raise BadPair((one, other))
    beside = []
    for k, (sign, table) in enumerate(maps):
        b = along(sign, widths[k], widths[k + 1])[1]
        c = along(sign, other[1][k], other[1][k + 1])[1]
        beside.append((sign, table_beside(table, b, other[2][k][1], c)))
    return p, together, tuple(beside)


def is_base_table(p, width, value):
    """Whether any value is a table from a width to itself that has a back."""
    return is_table(p, width, width, value) and back_rows(p, value) is not None


def are_bases(line, value):
    """Whether any value is a tuple of tables that have a back, one for each place."""
    p, widths, _ = line
    if not is_tuple_long(value, len(widths)):
        return False
    return all([is_base_table(p, width, table) for width, table in zip(widths, value)])


def changed_line(line, bases):
    """The same line told in other bases."""
    check_line(line)
    if not are_bases(line, bases):
        raise BadBases(bases)
    p, widths, maps = line
    changed = []
    for k, (sign, table) in enumerate(maps):
        a, b = along(sign, k, k + 1)
        led = led_behind(p, widths[b], bases[a], table)
        changed.append((sign, led_behind(p, widths[b], led, back_rows(p, bases[b]))))
    return p, widths, tuple(changed)


def put_together(left, right):
    """The line in which the last room of left is the first one of right."""
    check_two_lines(left, right)
    p, widths, maps = left
    if p != right[0] or widths[-1] != right[1][0]:
        raise BadPair((left, right))
    if len(widths) + len(right[1]) - 1 > MOST_PLACES:
        raise BadPair((left, right))
    return p, widths + right[1][1:], maps + right[2]
