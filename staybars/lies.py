"""Which forth lines lie within others, and which are thrown onto others."""

from staybars.errors import NotForth
from staybars.flags import heap_of_line
from staybars.lines import leads_forth
from staybars.rows import rows_of_line, tables_by_rows
from staybars.ways import check_fellows


def check_forth(one, other):
    """Raise BadLine for the one, for the other, BadPair, then NotForth for lines with a sign back."""
    check_fellows(one, other)
    if not leads_forth(one):
        raise NotForth(one)


def ends_at(heap, d, a):
    """How many bars of a heap end at d and begin at a or ahead of it."""
    return sum([often for first, last, often in heap if last == d and first <= a])


def births_at(heap, a, d):
    """How many bars of a heap begin at a and end at d or behind it."""
    return sum([often for first, last, often in heap if first == a and last >= d])


def rows_ending(rows, place):
    """The numbers of the rows that end at a place, those that begin first ahead."""
    found = sorted([(row[0], number) for number, row in enumerate(rows) if row[1] == place])
    return [number for _, number in found]


def rows_beginning(rows, place):
    """The numbers of the rows that begin at a place, those that end last ahead."""
    found = sorted([(-row[1], number) for number, row in enumerate(rows) if row[0] == place])
    return [number for _, number in found]


def into_crossing(one, other):
    """Any crossing from one to other that is one to one, None if there is none."""
    if more_ends(one, other) is not None:
        return None
    rows, theirs = rows_of_line(one), rows_of_line(other)
    partners = {}
    for place in range(len(one[1])):
        for number, partner in zip(rows_ending(rows, place), rows_ending(theirs, place)):
            partners[number] = theirs[partner]
    return tables_by_rows(one, other, rows, [partners[number] for number in range(len(rows))])


def onto_crossing(one, other):
    """Any crossing from one to other that is onto, None if there is none."""
    if fewer_births(one, other) is not None:
        return None
    rows, theirs = rows_of_line(one), rows_of_line(other)
    partners = {}
    for place in range(len(one[1])):
        for number, partner in zip(rows_beginning(rows, place), rows_beginning(theirs, place)):
            partners[number] = theirs[partner]
    return tables_by_rows(one, other, rows, [partners.get(number) for number in range(len(rows))])


def more_ends(one, other):
    """The first (d, a) such that more bars of the one than of the other end at d and begin at most at a."""
    check_forth(one, other)
    first, second = heap_of_line(one), heap_of_line(other)
    for d in range(len(one[1])):
        for a in range(d + 1):
            if ends_at(first, d, a) > ends_at(second, d, a):
                return d, a
    return None


def fewer_births(one, other):
    """The first (a, d) such that fewer bars of the one than of the other begin at a and end at least at d."""
    check_forth(one, other)
    first, second = heap_of_line(one), heap_of_line(other)
    for a in range(len(one[1])):
        for d in range(a, len(one[1])):
            if births_at(first, a, d) < births_at(second, a, d):
                return a, d
    return None
