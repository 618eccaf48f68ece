"""Forth lines thought on behind their last place, and how long their bars are."""

from staybars.bars import check_places
from staybars.errors import BadBar, BadNumber, NotForth
from staybars.kinds import is_from_to, is_stretch_of
from staybars.lines import FORTH, check_line, check_line_place, leads_forth
from staybars.sums import led_behind, same_rows

GREATEST_NUMBER = 40


def check_number(number):
    """Raise BadNumber for any value that is no integer from 0 to 40."""
    if not is_from_to(number, 0, GREATEST_NUMBER):
        raise BadNumber(number)


def check_forth_line(line):
    """Raise NotForth for what is known to be a line and has a sign back."""
    if not leads_forth(line):
        raise NotForth(line)


def check_bar(places, bar):
    """Raise BadBar for any value that is no stretch of so many places."""
    if not is_stretch_of(places, bar):
        raise BadBar(bar)


def is_forth(line):
    """Whether all signs of a line lead forth."""
    check_line(line)
    return leads_forth(line)


def place_on(line, k, many):
    """The place whose room stands so many places on from k: the last one for all behind it."""
    return min(k + many, len(line[2]))


def table_on(line, k, many):
    """The table of a forth line from the room at place k to that many places on."""
    p, widths, maps = line
    table = same_rows(widths[k])
    for place in range(k, place_on(line, k, many)):
        table = led_behind(p, widths[place + 1], table, maps[place][1])
    return table


def steps_on(line, k, many):
    """The table from the room at place k to that many places on."""
    check_line(line)
    check_forth_line(line)
    check_line_place(line, k)
    check_number(many)
    return table_on(line, k, many)


def line_on(line, many):
    """The forth line of equally many places that has at place k the room of place k + many."""
    p, widths, maps = line
    last = len(maps)
    beyond = (FORTH, same_rows(widths[-1]))
    rooms = tuple([widths[place_on(line, k, many)] for k in range(last + 1)])
    return p, rooms, maps[many:] + (beyond,) * min(many, last)


def shifted_line(line, many):
    """The forth line of equally many places that has at place k the room of place k + many."""
    check_line(line)
    check_forth_line(line)
    check_number(many)
    return line_on(line, many)


def stays(places, bar):
    """Whether what is known to be a bar of so many places goes on behind the last one."""
    return bar[1] == places - 1


def is_lasting(places, bar, e):
    """Whether what is known to be a bar of so many places is long for e."""
    return stays(places, bar) or bar[1] - bar[0] + 1 > 2 * e


def goes_on(places, bar):
    """Whether a bar of so many places goes on behind the last one."""
    check_places(places)
    check_bar(places, bar)
    return stays(places, bar)


def length_of(places, bar):
    """The length of a bar of so many places, None if it goes on."""
    check_places(places)
    check_bar(places, bar)
    if stays(places, bar):
        return None
    return bar[1] - bar[0] + 1


def is_long(places, bar, e):
    """Whether a bar of so many places is long for e."""
    check_places(places)
    check_bar(places, bar)
    check_number(e)
    return is_lasting(places, bar, e)
