"""Lines that are told into one another by other bases, and what parts those that are not."""

from staybars.bars import many_over
from staybars.crossings import check_lines_crossing
from staybars.flags import heap_of_line
from staybars.looks import stretches_of
from staybars.rows import in_sequence, rows_of_line, tables_by_rows
from staybars.spans import back_rows
from staybars.ways import check_fellows, have_backs


def alike_crossing(one, other):
    """Any crossing from one to other that has a back, None if there is none."""
    check_fellows(one, other)
    if heap_of_line(one) != heap_of_line(other):
        return None
    return tables_by_rows(one, other, in_sequence(rows_of_line(one)), in_sequence(rows_of_line(other)))


def back_crossing(one, other, crossing):
    """The back of a crossing from one to other, None if it has none."""
    check_lines_crossing(one, other, crossing)
    if not have_backs(one, other, crossing):
        return None
    return tuple([back_rows(one[0], table) for table in crossing])


def parting_stretch(one, other):
    """The first stretch that not equally many bars of the one and the other cover, None if there is none."""
    check_fellows(one, other)
    first, second = heap_of_line(one), heap_of_line(other)
    for a, b in stretches_of(len(one[1])):
        if many_over(first, a, b) != many_over(second, a, b):
            return a, b
    return None
