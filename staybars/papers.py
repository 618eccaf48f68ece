"""Papers of lines: rows of entries that tell the bars."""

from staybars.bars import piled
from staybars.entries import is_entry
from staybars.errors import BadNumber, BadPaper, BadRows
from staybars.kinds import is_from_to, is_stretch_of, is_tuple_long
from staybars.lines import along, check_line, check_line_stretch, check_two_lines, lines_beside
from staybars.rows import entries_over, entry_or_nought, in_sequence, is_over, row_with, rows_of_line
from staybars.spans import base_of
from staybars.sums import led_by, noughts, same_rows


def is_row(line, value):
    """Whether any value is a stretch of the line's places with an entry for each of them."""
    p, widths, _ = line
    if not is_tuple_long(value, 3) or not is_stretch_of(len(widths), value[:2]):
        return False
    a, b, entries = value
    if not is_tuple_long(entries, b - a + 1):
        return False
    return all([is_entry(p, width, entry) for width, entry in zip(widths[a:], entries)])


def is_row_led(line, row):
    """Whether the maps lead the entries of a row to one another, and away from its ends to nought."""
    p, widths, maps = line
    for k, (sign, table) in enumerate(maps):
        here, there = along(sign, k, k + 1)
        if is_over(row, here):
            led = led_by(p, widths[there], table, entry_or_nought(row, here, widths[here]))
            if led != entry_or_nought(row, there, widths[there]):
                return False
    return True


def is_filled(p, width, rows, place):
    """Whether the entries of the rows over a place are a base of its room."""
    entries = entries_over(rows, place)
    return len(entries) == width and base_of(p, entries) == same_rows(width)


def is_paper(line, value):
    """Whether any value is a right paper of the line."""
    check_line(line)
    p, widths, _ = line
    if not isinstance(value, tuple) or not all([is_row(line, row) for row in value]):
        return False
    if not all([is_filled(p, width, value, place) for place, width in enumerate(widths)]):
        return False
    return all([is_row_led(line, row) for row in value])


def check_paper(line, value):
    """Raise BadLine for what is no line, then BadPaper for what is no right paper of it."""
    if not is_paper(line, value):
        raise BadPaper(value)


def paper_of(line):
    """Any right paper of the line."""
    check_line(line)
    return tuple(rows_of_line(line))


def heap_of_paper(line, value):
    """The heap of the stretches of the paper's rows."""
    check_paper(line, value)
    return piled([(a, b, 1) for a, b, _ in value])


def bases_of_paper(line, value):
    """The tables by which changed_line tells the line as the plain line of its heap."""
    check_paper(line, value)
    rows = in_sequence(value)
    return tuple([entries_over(rows, place) for place in range(len(line[1]))])


def cut_row(row, first, last):
    """A row cut to the places from first to last, numbered anew from 0."""
    a, b, entries = row
    low, high = max(a, first), min(b, last)
    return low - first, high - first, entries[low - a:high - a + 1]


def cut_paper(line, value, first, last):
    """The paper of the places from first to last alone."""
    check_paper(line, value)
    check_line_stretch(line, first, last)
    return tuple([cut_row(row, first, last) for row in value if row[0] <= last and row[1] >= first])


def mirrored_paper(line, value):
    """The paper of the line with its places in the other sequence."""
    check_paper(line, value)
    last = len(line[2])
    return tuple([(last - b, last - a, entries[::-1]) for a, b, entries in value])


def widened_row(row, ahead, behind):
    """A row with noughts ahead and behind for the further numbers of rooms of these widths."""
    a, b, entries = row
    wide = []
    for place, entry in zip(range(a, b + 1), entries):
        wide.append(noughts(ahead[place]) + entry + noughts(behind[place]))
    return a, b, tuple(wide)


def beside_papers(one, first, other, second):
    """The paper of the two lines beside one another."""
    check_two_lines(one, other)
    check_paper(one, first)
    check_paper(other, second)
    # Told for its BadPair alone: the paper needs no more of it.
    lines_beside(one, other)
    none = noughts(len(one[1]))
    upper = [widened_row(row, none, other[1]) for row in first]
    lower = [widened_row(row, one[1], none) for row in second]
    return tuple(upper + lower)


def are_two_numbers(many, i, j):
    """Whether any values are two unlike integers from 0 to many - 1."""
    return is_from_to(i, 0, many - 1) and is_from_to(j, 0, many - 1) and i != j


def added_row(line, value, i, j, number):
    """The paper with number times row j added to row i where both stand, None if it is no right one."""
    check_paper(line, value)
    if not are_two_numbers(len(value), i, j):
        raise BadRows((i, j))
    if not is_from_to(number, 0, line[0] - 1):
        raise BadNumber(number)
    added = row_with(line[0], value[i], number, value[j])
    paper = value[:i] + (added,) + value[i + 1:]
    if not is_paper(line, paper):
        return None
    return paper
