"""Rooms, parts, tables and lines told by counting all entries: what the package is held against."""

from itertools import product

PRIMES = (2, 3, 5, 7)


def all_entries(p, width):
    """All entries of a room."""
    return list(product(range(p), repeat=width))


def add(p, one, other):
    return tuple((one[k] + other[k]) % p for k in range(len(one)))


def scale(p, number, entry):
    return tuple((number * n) % p for n in entry)


def lead(p, b, table, entry):
    """Where a table leads an entry, number by number."""
    return tuple(sum(entry[i] * table[i][j] for i in range(len(table))) % p for j in range(b))


def span(p, width, entries):
    """The set of all sums of multiples of some entries."""
    held = {(0,) * width}
    for entry in entries:
        if entry not in held:
            held = {add(p, x, scale(p, n, entry)) for x in held for n in range(p)}
    return held


def width_in(p, held):
    """The width of a part that is told by all its entries."""
    width = 0
    while p ** width < len(held):
        width += 1
    assert p ** width == len(held)
    return width


def is_base(width, value):
    """Whether a tuple of entries has the form that [4] asks of a base."""
    leads = []
    for entry in value:
        places = [k for k in range(width) if entry[k] != 0]
        if not places or entry[places[0]] != 1:
            return False
        leads.append(places[0])
    if any(leads[k] >= leads[k + 1] for k in range(len(leads) - 1)):
        return False
    return all(value[i][leads[j]] == 0 for i in range(len(value)) for j in range(len(value)) if i != j)


def all_bases(p, width):
    """All tuples of entries that have the form of a base, by their number of entries."""
    found = [()]
    entries = all_entries(p, width)
    grown = [()]
    for _ in range(width):
        grown = [base + (entry,) for base in grown for entry in entries if is_base(width, base + (entry,))]
        found.extend(grown)
    return found


def random_entry(rng, p, width):
    return tuple(rng.randrange(p) for _ in range(width))


def random_table(rng, p, a, b):
    """A table that leads to nought rather often."""
    kind = rng.randrange(4)
    if kind == 0:
        return tuple((0,) * b for _ in range(a))
    rows = [random_entry(rng, p, b) for _ in range(a)]
    if kind == 1 and a > 1:
        rows[-1] = scale(p, rng.randrange(p), rows[0])
    return tuple(rows)


def random_part(rng, p, width):
    """The base of some part, worked out by counting."""
    held = span(p, width, [random_entry(rng, p, width) for _ in range(rng.randrange(width + 1))])
    return base_of_set(p, width, held)


def base_of_set(p, width, held):
    """The base of a part that is told by all its entries."""
    leads = []
    for k in range(width):
        if any(entry[k] != 0 and not any(entry[:k]) for entry in held):
            leads.append(k)
    base = []
    for at in leads:
        fits = [entry for entry in held if not any(entry[:at]) and entry[at] == 1]
        fits = [entry for entry in fits if all(entry[k] == 0 for k in leads if k != at)]
        assert len(fits) == 1
        base.append(fits[0])
    return tuple(base)


def random_chain(rng, p, width):
    """The parts of some chain of a room."""
    whole = tuple(tuple(int(k == j) for k in range(width)) for j in range(width))
    chain = []
    entries = []
    held = {(0,) * width}
    while len(held) < p ** width:
        for _ in range(rng.randrange(1, 3)):
            entries.append(random_entry(rng, p, width))
        grown = span(p, width, entries)
        if len(grown) > len(held):
            held = grown
            chain.append(base_of_set(p, width, held))
    assert not chain or chain[-1] == whole
    return tuple(chain)


def random_base_table(rng, p, width):
    """A table from a width to itself that has a back."""
    rows = [[int(i == j) * rng.randrange(1, p) for j in range(width)] for i in range(width)]
    for _ in range(3 * width):
        i, j = rng.randrange(width), rng.randrange(width)
        if i != j:
            number = rng.randrange(p)
            rows[i] = [(rows[i][k] + number * rows[j][k]) % p for k in range(width)]
    rng.shuffle(rows)
    return tuple(tuple(row) for row in rows)


def random_line(rng, p, widths):
    """A line with these widths and any signs."""
    maps = []
    for k in range(len(widths) - 1):
        if rng.randrange(2):
            maps.append((">", random_table(rng, p, widths[k], widths[k + 1])))
        else:
            maps.append(("<", random_table(rng, p, widths[k + 1], widths[k])))
    return (p, tuple(widths), tuple(maps))


def entries_that_fit(line, a, b, begin):
    """The set of all last entries of rows that fit from a to b and begin in a set."""
    p, widths, maps = line
    held = set(begin)
    for k in range(a, b):
        sign, table = maps[k]
        if sign == ">":
            held = {lead(p, widths[k + 1], table, x) for x in held}
        else:
            held = {x for x in all_entries(p, widths[k + 1]) if lead(p, widths[k], table, x) in held}
    return held


def rank_by_count(line, a, b):
    """The rank of a stretch by [15], counted over all entries."""
    p, widths, _ = line
    from_all = entries_that_fit(line, a, b, all_entries(p, widths[a]))
    from_nought = entries_that_fit(line, a, b, [(0,) * widths[a]])
    return width_in(p, from_all) - width_in(p, from_nought)


def random_heap(rng, places, most=8):
    """A heap that covers no place more often than most."""
    cover = [0] * places
    counts = {}
    for _ in range(rng.randrange(3 * places + 2)):
        a = rng.randrange(places)
        b = rng.randrange(a, places)
        if all(cover[k] < most for k in range(a, b + 1)):
            for k in range(a, b + 1):
                cover[k] += 1
            counts[a, b] = counts.get((a, b), 0) + 1
    return tuple((a, b, counts[a, b]) for a, b in sorted(counts))
