"""Crossings from a line to a fellow."""

from staybars.bars import check_heap, check_signs
from staybars.errors import BadCrossing, BadNumber, BadStretch, TooMany
from staybars.flags import heap_of_line
from staybars.kinds import is_stretch_of, is_whole
from staybars.lines import FORTH, check_line, check_two_lines, signs_in
from staybars.rows import entries_over, entry_or_nought, is_over, rows_of_line
from staybars.spans import back_rows, base_of, fetched_base
from staybars.sums import led_behind, noughts, plus, same_rows, times
from staybars.ways import check_fellows, check_pair, goes_along

MOST_CROSSINGS = 300


def is_crossing(one, other, value):
    """Whether any value is a crossing from one to other."""
    check_fellows(one, other)
    return goes_along(one, other, value)


def check_crossing(one, other, crossing):
    """Raise BadCrossing for any value that is no crossing between two fellows."""
    if not goes_along(one, other, crossing):
        raise BadCrossing(crossing)


def check_lines_crossing(one, other, crossing):
    """Raise BadLine for the one, for the other, BadPair, then BadCrossing."""
    check_fellows(one, other)
    check_crossing(one, other, crossing)


def is_one_to_one(one, other, crossing):
    """Whether a crossing leads no entry but nought to nought."""
    check_lines_crossing(one, other, crossing)
    return all([fetched_base(one[0], b, table, ()) == () for b, table in zip(other[1], crossing)])


def is_onto(one, other, crossing):
    """Whether a crossing leads some entry to each entry."""
    check_lines_crossing(one, other, crossing)
    return all([len(base_of(one[0], table)) == b for b, table in zip(other[1], crossing)])


def same_crossing(line):
    """The crossing from a line to itself that leads each entry to itself."""
    check_line(line)
    return tuple([same_rows(width) for width in line[1]])


def behind_crossing(one, middle, other, first, second):
    """The crossing that leads by first, from one to middle, and then by second, to other."""
    check_two_lines(one, middle)
    check_line(other)
    check_pair(one, middle)
    check_pair(middle, other)
    check_crossing(one, middle, first)
    check_crossing(middle, other, second)
    return tuple([led_behind(one[0], c, first[k], second[k]) for k, c in enumerate(other[1])])


def sum_table(p, first, second, number):
    """A table and another one, taken times a number, added."""
    return tuple([plus(p, row, times(p, number, more)) for row, more in zip(first, second)])


def sum_crossing(one, other, first, second, number):
    """A crossing and another one, taken times any integer, added."""
    check_lines_crossing(one, other, first)
    check_crossing(one, other, second)
    if not is_whole(number):
        raise BadNumber(number)
    return tuple([sum_table(one[0], first[k], second[k], number) for k in range(len(one[1]))])


def crosses_into(signs, first, second):
    """Whether the stretch first crosses into the stretch second."""
    low, high = max(first[0], second[0]), min(first[1], second[1])
    if low > high:
        return False
    # Beside the shared places the first is barred where a map leads into them, the second where it leads away.
    if low > 0:
        barred = first if signs[low - 1] == FORTH else second
        if barred[0] < low:
            return False
    if high < len(signs):
        barred = second if signs[high] == FORTH else first
        if barred[1] > high:
            return False
    return True


def bars_cross(signs, first, second):
    """Whether the stretch first crosses into the stretch second, for these signs."""
    check_signs(signs)
    for stretch in (first, second):
        if not is_stretch_of(len(signs) + 1, stretch):
            raise BadStretch(stretch)
    return crosses_into(signs, first, second)


def width_of_crossings(signs, one, other):
    """How many a base of the crossings has, by the heaps of the lines."""
    pairs = [(pile, more) for pile in one for more in other]
    return sum([pile[2] * more[2] for pile, more in pairs if crosses_into(signs, pile[:2], more[:2])])


def crossing_width(signs, one, other):
    """How many a base of the crossings has, from a line with the heap one to one with the heap other."""
    check_signs(signs)
    check_heap(len(signs) + 1, one)
    check_heap(len(signs) + 1, other)
    return width_of_crossings(signs, one, other)


def number_over(rows, row_number, place):
    """The number, among the rows over a place, of the row with this number."""
    return len([row for row in rows[:row_number] if is_over(row, place)])


def row_crossing(one, other, backs, rows, number, second):
    """The crossing that leads one row of a paper of one to a row of other and the others to nought."""
    tables = []
    for place, width in enumerate(other[1]):
        entry = noughts(width)
        spot = 0
        if is_over(rows[number], place):
            entry = entry_or_nought(second, place, width)
            spot = number_over(rows, number, place)
        tables.append(tuple([times(one[0], row[spot], entry) for row in backs[place]]))
    return tuple(tables)


def all_crossings(one, other):
    """A list that is a base of the crossings from one to other."""
    check_fellows(one, other)
    signs = signs_in(one)
    if width_of_crossings(signs, heap_of_line(one), heap_of_line(other)) > MOST_CROSSINGS:
        raise TooMany(MOST_CROSSINGS)
    rows, theirs = rows_of_line(one), rows_of_line(other)
    backs = [back_rows(one[0], entries_over(rows, place)) for place in range(len(one[1]))]
    found = []
    for number, row in enumerate(rows):
        for second in theirs:
            if crosses_into(signs, row[:2], second[:2]):
                found.append(row_crossing(one, other, backs, rows, number, second))
    return found
