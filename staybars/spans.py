"""Bases of parts, worked out for arguments that are known to be right."""

from staybars.sums import back_by, led_by, noughts, one_at, plus, same_rows, times


def lead_of(entry):
    """The place of the first number that isn't 0 in an entry that isn't nought."""
    place = 0
    while entry[place] == 0:
        place += 1
    return place


def rest_off(p, base, entry):
    """What is left of an entry when a base is taken off such that its leads become 0."""
    rest = entry
    for row in base:
        rest = plus(p, rest, times(p, -rest[lead_of(row)], row))
    return rest


def numbers_in(base, entry):
    """The numbers by which the entries of a base are taken to come to an entry that its part holds."""
    return tuple([entry[lead_of(row)] for row in base])


def is_held(p, base, entry):
    """Whether the part of a base holds an entry."""
    return not any(rest_off(p, base, entry))


def grown_base(p, base, entry):
    """The base of the least part that holds a part and an entry."""
    rest = rest_off(p, base, entry)
    if not any(rest):
        return base
    lead = lead_of(rest)
    new = times(p, back_by(p, rest[lead]), rest)
    cleared = [plus(p, row, times(p, -row[lead], new)) for row in base]
    ahead = [row for row in cleared if lead_of(row) < lead]
    behind = [row for row in cleared if lead_of(row) > lead]
    return tuple(ahead + [new] + behind)


def base_of(p, entries):
    """The base of the least part that holds some entries of one width."""
    base = ()
    for entry in entries:
        base = grown_base(p, base, entry)
    return base


def tails_of(base, many):
    """The rows of a base that are 0 at the first so many places, without these."""
    return tuple([row[many:] for row in base if lead_of(row) >= many])


def numbered_rows(table):
    """Each row of a table with the entry behind it that has 1 at the row's number."""
    many = len(table)
    return [row + one_at(many, number) for number, row in enumerate(table)]


def fetched_base(p, b, table, base):
    """The base of all entries that a table leads into a part of the room of width b."""
    # Rows that come to 0 in front tell by their tails what is led into the part.
    beyond = noughts(len(table))
    return tails_of(base_of(p, numbered_rows(table) + [row + beyond for row in base]), b)


def led_base(p, b, table, base):
    """The base of all to which a table leads the entries of a part."""
    return base_of(p, [led_by(p, b, table, row) for row in base])


def met_base(p, width, one, other):
    """The base of the entries that two parts both hold."""
    beyond = noughts(width)
    doubled = [row + row for row in one] + [row + beyond for row in other]
    return tails_of(base_of(p, doubled), width)


def summed_base(p, one, other):
    """The base of the sums of an entry of the one part and one of the other."""
    return base_of(p, one + other)


def rest_rows(p, smaller, greater):
    """The rows of the greater base that are not held by the smaller one and the rows ahead."""
    rows = []
    base = smaller
    for row in greater:
        if not is_held(p, base, row):
            rows.append(row)
            base = grown_base(p, base, row)
    return rows


def is_base_within(p, one, other):
    """Whether each entry of the one part is one of the other."""
    return all([is_held(p, other, row) for row in one])


def entry_led_to(p, b, table, entry):
    """An entry that a table leads to this one of the room of width b, or None."""
    rest = rest_off(p, base_of(p, numbered_rows(table)), entry + noughts(len(table)))
    if any(rest[:b]):
        return None
    return times(p, -1, rest[b:])


def back_rows(p, table):
    """Of a table from a width to itself the table that leads back, or None."""
    width = len(table)
    base = base_of(p, numbered_rows(table))
    if tuple([row[:width] for row in base]) != same_rows(width):
        return None
    return tuple([row[width:] for row in base])
