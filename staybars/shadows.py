"""What a crossing throws: the led line, the lost line and the rest line."""

from staybars.crossings import check_lines_crossing
from staybars.lines import along
from staybars.spans import base_of, fetched_base, lead_of, numbers_in, rest_off
from staybars.sums import led_by, one_at


def led_bases(p, crossing):
    """The bases of the parts of all to which a crossing leads, one for each place."""
    return tuple([base_of(p, table) for table in crossing])


def spots_beyond(base, width):
    """The spots of a room where no entry of a base has its first number that isn't 0."""
    leads = [lead_of(row) for row in base]
    return [spot for spot in range(width) if spot not in leads]


def rest_numbers(p, base, entry):
    """The numbers at the other spots when a base is taken off an entry."""
    rest = rest_off(p, base, entry)
    return tuple([rest[spot] for spot in spots_beyond(base, len(entry))])


def unit_rests(p, base, width):
    """The table that leads each entry of a room to what is told of it when a base is taken off."""
    return tuple([rest_numbers(p, base, one_at(width, spot)) for spot in range(width)])


def led_along(line, k, entries):
    """The place to which map number k leads, and where it leads some entries, by the place they are of."""
    p, widths, maps = line
    sign, table = maps[k]
    here, there = along(sign, k, k + 1)
    return there, [led_by(p, widths[there], table, entry) for entry in entries[here]]


def line_of_parts(line, bases):
    """The line whose rooms are the parts of a line's rooms with these bases."""
    maps = []
    for k, (sign, _) in enumerate(line[2]):
        there, led = led_along(line, k, bases)
        maps.append((sign, tuple([numbers_in(bases[there], entry) for entry in led])))
    return line[0], tuple([len(base) for base in bases]), tuple(maps)


def line_of_rests(line, bases):
    """The line whose rooms are a line's rooms where entries are one whose difference the bases make up."""
    p, widths, _ = line
    spots = [spots_beyond(base, width) for base, width in zip(bases, widths)]
    units = [[one_at(width, spot) for spot in beyond] for width, beyond in zip(widths, spots)]
    maps = []
    for k, (sign, _) in enumerate(line[2]):
        there, led = led_along(line, k, units)
        maps.append((sign, tuple([rest_numbers(p, bases[there], entry) for entry in led])))
    return p, tuple([len(beyond) for beyond in spots]), tuple(maps)


def led_line(one, other, crossing):
    """The led line, the crossing from one to it, and that from it to other."""
    check_lines_crossing(one, other, crossing)
    bases = led_bases(one[0], crossing)
    onto = []
    for base, table in zip(bases, crossing):
        onto.append(tuple([numbers_in(base, row) for row in table]))
    return line_of_parts(other, bases), tuple(onto), bases


def lost_line(one, other, crossing):
    """The lost line, and the crossing from it to one."""
    check_lines_crossing(one, other, crossing)
    bases = tuple([fetched_base(one[0], b, table, ()) for b, table in zip(other[1], crossing)])
    return line_of_parts(one, bases), bases


def rest_line(one, other, crossing):
    """The rest line, and the crossing from other to it."""
    check_lines_crossing(one, other, crossing)
    bases = led_bases(one[0], crossing)
    onto = tuple([unit_rests(one[0], base, width) for base, width in zip(bases, other[1])])
    return line_of_rests(other, bases), onto
