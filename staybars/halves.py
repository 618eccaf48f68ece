"""Left halves of lines, and whether the one can stand for the other."""

from staybars.chains import one_base
from staybars.cuts import parts_of_steps
from staybars.errors import BadPair
from staybars.flags import day_of, ended_bars, heap_of_line, left_flag
from staybars.lines import MOST_PLACES, check_line, check_two_lines, put_together, signs_in
from staybars.rows import in_sequence, row_less, rows_of_line, tables_by_rows
from staybars.spans import entry_led_to
from staybars.sums import noughts, plus, same_rows
from staybars.ways import goes_along, have_backs


def check_half_pair(one, other):
    """Raise BadPair for two lines that are no left halves to be held against one another."""
    places = len(one[1])
    if one[0] != other[0] or places != len(other[1]) or one[1][-1] != other[1][-1]:
        raise BadPair((one, other))
    if places == MOST_PLACES:
        raise BadPair((one, other))


def check_halves(one, other):
    """Raise BadLine for the one, for the other, then BadPair."""
    check_two_lines(one, other)
    check_half_pair(one, other)


def check_like_halves(one, other):
    """Raise BadLine for the one, for the other, then BadPair, also if the signs are unlike."""
    check_halves(one, other)
    if signs_in(one) != signs_in(other):
        raise BadPair((one, other))


def are_exchangeable(one, other):
    """Whether each right half gives with the one and with the other the same heap."""
    check_halves(one, other)
    return left_flag(one) == left_flag(other) and ended_bars(one) == ended_bars(other)


def parting_half(one, other):
    """None if the halves can be exchanged, otherwise any right half that tells them apart."""
    check_halves(one, other)
    p, width = one[0], one[1][-1]
    entry = unlike_entry(one, other)
    if entry is not None:
        return p, (width, 1), (("<", (entry,)),)
    if ended_bars(one) != ended_bars(other):
        return p, (width,), ()
    return None


def tells_halves(one, other, right):
    """Whether a right half gives unlike heaps with the one and with the other."""
    check_two_lines(one, other)
    check_line(right)
    check_half_pair(one, other)
    return heap_of_line(put_together(one, right)) != heap_of_line(put_together(other, right))


def unlike_entry(one, other):
    """Any entry of the last room with unlike birthdays in the one and the other, or None."""
    check_halves(one, other)
    p, width = one[0], one[1][-1]
    first, second = left_flag(one), left_flag(other)
    base = one_base(p, width, parts_of_steps(first), parts_of_steps(second))
    # Entries of a base of both chains may all agree while their sums do not: the days may follow otherwise.
    sums = [plus(p, base[i], base[j]) for j in range(width) for i in range(j)]
    for entry in list(base) + sums:
        if day_of(p, width, first, entry) != day_of(p, width, second, entry):
            return entry
    return None


def row_to(p, row, others):
    """The row with the stretch and the last entry of a row, made of other rows to the same place."""
    a, b, entries = row
    ends = tuple([other[2][-1] for other in others])
    numbers = entry_led_to(p, len(entries[-1]), ends, entries[-1])
    widths = [len(entry) for entry in entries]
    nought = (a, b, tuple([noughts(width) for width in widths]))
    return row_less(p, nought, [-number for number in numbers], others)


def way_between(one, other):
    """Any crossing of tables with a back that leaves each entry at the cut as it is, or None."""
    check_like_halves(one, other)
    if not are_exchangeable(one, other):
        return None
    last = len(one[2])
    rows = in_sequence(rows_of_line(one))
    theirs = rows_of_line(other)
    coming = [row for row in theirs if row[1] == last]
    led = [row_to(one[0], row, coming) for row in rows if row[1] == last]
    ended = [row for row in theirs if row[1] < last]
    return tables_by_rows(one, other, rows, in_sequence(led + ended))


def is_way(one, other, value):
    """Whether any value is such a crossing as way_between tells."""
    check_like_halves(one, other)
    if not goes_along(one, other, value) or not have_backs(one, other, value):
        return False
    return value[-1] == same_rows(one[1][-1])
