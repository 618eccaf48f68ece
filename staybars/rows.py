"""Rows (a, b, entries) of papers, worked out for lines that are known to be right."""

from staybars.lines import FORTH
from staybars.spans import back_rows, base_of, grown_base, numbered_rows, rest_off, rest_rows, tails_of
from staybars.sums import led_behind, led_by, noughts, one_at, plus, same_rows, times


def is_over(row, place):
    """Whether a row stands over a place."""
    return row[0] <= place <= row[1]


def entry_at(row, place):
    """The entry of a row at one of its places."""
    return row[2][place - row[0]]


def entry_or_nought(row, place, width):
    """The entry of a row at a place, nought where it does not stand and if it is None."""
    if row is None or not is_over(row, place):
        return noughts(width)
    return entry_at(row, place)


def row_with(p, row, number, other):
    """A row with another one, taken times a number, added to it at the places of both."""
    a, b, entries = row
    summed = []
    for place, entry in zip(range(a, b + 1), entries):
        more = entry_or_nought(other, place, len(entry))
        summed.append(plus(p, entry, times(p, number, more)))
    return a, b, tuple(summed)


def row_less(p, row, numbers, others):
    """A row from which other ones, each taken times its number, are taken off."""
    for number, other in zip(numbers, others):
        row = row_with(p, row, -number, other)
    return row


def row_on(row, entry):
    """A row that goes on with an entry at one place more."""
    a, b, entries = row
    return a, b + 1, entries + (entry,)


def rows_born(place, entries):
    """The rows that begin at a place with some entries."""
    return [(place, place, (entry,)) for entry in entries]


def numbers_by(p, b, base, entry, many):
    """The numbers, at the last so many places of a base, by which its rows come to an entry.

    None if they do not come to it at the first b places.
    """
    rest = rest_off(p, base, entry + noughts(many))
    if any(rest[:b]):
        return None
    return times(p, -1, rest[b:])


def led_on(p, k, b, table, rows):
    """The rows that end at place k and those that stand at k + 1, to which the table leads.

    The rows come in the sequence of the left flag: then each may have those ahead of it taken off.
    """
    many = len(rows)
    ended = []
    kept = []
    base = ()
    images = []
    for row in rows:
        image = led_by(p, b, table, row[2][-1])
        numbers = numbers_by(p, b, base, image, many)
        if numbers is None:
            base = grown_base(p, base, image + one_at(many, len(kept)))
            kept.append(row)
            images.append(image)
        else:
            ended.append(row_less(p, row, numbers, kept))
    born = rest_rows(p, base_of(p, images), same_rows(b))
    return ended, [row_on(row, image) for row, image in zip(kept, images)] + rows_born(k + 1, born)


def fetched_on(p, k, b, table, rows):
    """The rows that end at place k and those that stand at k + 1, from which the table leads.

    The rows come in the sequence of the left flag: then each may have those ahead of it taken off.
    """
    a = len(table)
    beyond = noughts(len(rows))
    base = base_of(p, [row + beyond for row in numbered_rows(table)])
    born = [row[:a] for row in tails_of(base, b)]
    ended = []
    standing = []
    for row in rows:
        numbers = numbers_by(p, b, base, row[2][-1], a + len(rows))
        if numbers is None:
            base = grown_base(p, base, row[2][-1] + one_at(a + len(rows), a + len(ended)))
            ended.append(row)
        else:
            standing.append(row_on(row_less(p, row, numbers[a:], ended), numbers[:a]))
    return ended, rows_born(k + 1, born) + standing


def rows_of_line(line):
    """The rows of a right paper of a line, those that come to its last place as the left flag has them."""
    p, widths, maps = line
    done = []
    standing = rows_born(0, same_rows(widths[0]))
    for k, (sign, table) in enumerate(maps):
        if sign == FORTH:
            ended, standing = led_on(p, k, widths[k + 1], table, standing)
        else:
            ended, standing = fetched_on(p, k, widths[k], table, standing)
        done.extend(ended)
    return done + standing


def in_sequence(rows):
    """The rows by their stretches ascending, those of one stretch in the sequence that they have."""
    places = sorted([(a, b, number) for number, (a, b, _) in enumerate(rows)])
    return [rows[number] for _, _, number in places]


def entries_over(rows, place):
    """The tuple of the entries that rows have at a place, in the sequence of the rows."""
    return tuple([entry_at(row, place) for row in rows if is_over(row, place)])


def tables_by_rows(one, other, rows, partners):
    """The tables by which each row of a paper of one comes to its partner, a row of other, or to nought."""
    p = one[0]
    tables = []
    for place, width in enumerate(other[1]):
        back = back_rows(p, entries_over(rows, place))
        pairs = [(row, partner) for row, partner in zip(rows, partners) if is_over(row, place)]
        led = [entry_or_nought(partner, place, width) for _, partner in pairs]
        tables.append(led_behind(p, width, back, led))
    return tuple(tables)
