"""Tables there and back between forth lines, and the matchings of their bars."""

from staybars.bars import bars_in
from staybars.errors import BadPair, NotMatching, NotThereAndBack
from staybars.flags import heap_of_line
from staybars.kinds import is_tuple_long
from staybars.lies import rows_beginning, rows_ending
from staybars.lines import check_two_lines
from staybars.matchings import is_matching_of, least_found, matching_found, pairs_counted
from staybars.rows import entry_at, rows_of_line, tables_by_rows
from staybars.shadows import led_bases, line_of_parts
from staybars.shifts import check_forth_line, check_number, line_on, place_on, stays, table_on
from staybars.sums import led_behind
from staybars.ways import goes_along


def check_two_forth(one, other):
    """Raise BadLine for the one, for the other, NotForth for the one, for the other, then BadPair."""
    check_two_lines(one, other)
    check_forth_line(one)
    check_forth_line(other)
    if one[0] != other[0] or len(one[1]) != len(other[1]):
        raise BadPair((one, other))


def check_forth_number(one, other, e):
    """Raise what is told for two forth lines, then BadNumber for e."""
    check_two_forth(one, other)
    check_number(e)


def matching_between(one, other, e):
    """A matching of the heaps of two forth lines, or None."""
    return matching_found(len(one[1]), heap_of_line(one), heap_of_line(other), e)


def are_within(one, other, e):
    """Whether there are tables there and back for e."""
    check_forth_number(one, other, e)
    return matching_between(one, other, e) is not None


def least_between(one, other):
    """The least e for which there are tables there and back, None if there is none."""
    check_two_forth(one, other)
    return least_found(len(one[1]), heap_of_line(one), heap_of_line(other))


def rows_by_stretch(rows):
    """The dict of the numbers of rows by their stretches."""
    numbers = {}
    for number, (a, b, _) in enumerate(rows):
        numbers.setdefault((a, b), []).append(number)
    return numbers


def rows_matched(rows, theirs, matching):
    """The list of the pairs of numbers of rows that a matching of their stretches matches."""
    mine, others = rows_by_stretch(rows), rows_by_stretch(theirs)
    return [(mine[first].pop(), others[second].pop()) for first, second, often in matching for _ in range(often)]


def row_ahead(line, row, e):
    """A row of a forth line as it stands in the line e places on: on no place if it ended ahead of it."""
    a, b, _ = row
    last = len(line[2])
    high = last if stays(last + 1, row) else b - e
    low = max(a - e, 0)
    return low, high, tuple([entry_at(row, place_on(line, k, e)) for k in range(low, high + 1)])


def tables_led(one, other, e, rows, theirs, pairs):
    """The tables e places on by which each row of one comes to the row of other with which it is matched."""
    partners = [None] * len(rows)
    for number, partner in pairs:
        partners[number] = row_ahead(other, theirs[partner], e)
    return tables_by_rows(one, line_on(other, e), rows, partners)


def tables_by_matching(one, other, e, matching):
    """The tables there and back by which matched bars come to one another."""
    rows, theirs = rows_of_line(one), rows_of_line(other)
    pairs = rows_matched(rows, theirs, matching)
    there = tables_led(one, other, e, rows, theirs, pairs)
    return there, tables_led(other, one, e, theirs, rows, [(partner, number) for number, partner in pairs])


def tables_for(one, other, e, value):
    """Any tables there and back, by a matching of the two lines' heaps."""
    check_forth_number(one, other, e)
    if not is_matching_of(len(one[1]), heap_of_line(one), heap_of_line(other), e, value):
        raise NotMatching(value)
    return tables_by_matching(one, other, e, value)


def there_and_back(one, other, e):
    """Any tables there and back for e, or None."""
    check_forth_number(one, other, e)
    matching = matching_between(one, other, e)
    if matching is None:
        return None
    return tables_by_matching(one, other, e, matching)


def lead_on(one, other, e, value):
    """Whether any value is tables e places on from one forth line to another."""
    return goes_along(one, line_on(other, e), value)


def are_tables_on(one, other, e, value):
    """Whether any value is tables e places on from one to other."""
    check_forth_number(one, other, e)
    return lead_on(one, other, e, value)


def come_round(line, e, tables, others):
    """Whether tables, and other ones behind them, lead as the line's own maps 2 e places on."""
    for k, table in enumerate(tables):
        width = line[1][place_on(line, k, 2 * e)]
        if led_behind(line[0], width, table, others[place_on(line, k, e)]) != table_on(line, k, 2 * e):
            return False
    return True


def lead_there_and_back(one, other, e, value):
    """Whether any value is tables there and back for e between two forth lines."""
    if not is_tuple_long(value, 2):
        return False
    there, back = value
    if not lead_on(one, other, e, there) or not lead_on(other, one, e, back):
        return False
    return come_round(one, e, there, back) and come_round(other, e, back, there)


def is_there_and_back(one, other, e, value):
    """Whether any value is tables there and back for e."""
    check_forth_number(one, other, e)
    return lead_there_and_back(one, other, e, value)


def bars_between(one, other, e, there):
    """The list of the bars of the line of all entries to which tables e places on lead."""
    return bars_in(heap_of_line(line_of_parts(line_on(other, e), led_bases(one[0], there))))


def led_matching(one, other, e, value):
    """The matching that the first of tables there and back tells, by the line between."""
    check_forth_number(one, other, e)
    if not lead_there_and_back(one, other, e, value):
        raise NotThereAndBack(value)
    ones, others = bars_in(heap_of_line(one)), bars_in(heap_of_line(other))
    between = bars_between(one, other, e, value[0])
    firsts, seconds = {}, {}
    for k in range(len(one[1])):
        for number, first in zip(rows_beginning(between, k), rows_beginning(ones, k)):
            firsts[number] = ones[first]
        for number, second in zip(rows_ending(between, k), rows_ending(others, place_on(other, k, e))):
            seconds[number] = others[second]
    return pairs_counted([(firsts[number], seconds[number]) for number in range(len(between))])
