"""Lines whose bars are known: plain lines told in drawn bases, and what is told of them by counting."""

from staybars.bars import plain_line
from staybars.lines import changed_line
from tests.rooms import (
    PRIMES, all_entries, base_of_set, lead, random_base_table, random_heap, rank_by_count,
)


def same_rows(width):
    return tuple(tuple(int(i == j) for j in range(width)) for i in range(width))


def nought_table(a, b):
    return ((0,) * b,) * a


def random_signs(rng, places):
    return tuple(rng.choice("<>") for _ in range(places - 1))


def bases_for(rng, p, widths):
    """A table with a back for each place."""
    return tuple(random_base_table(rng, p, width) for width in widths)


def drawn(rng, p, heap, signs):
    """A line with this heap, told in drawn bases."""
    line = plain_line(p, heap, signs)
    return changed_line(line, bases_for(rng, p, line[1]))


def drawn_lines(rng, often, most=4, longest=7):
    """Lines of known bars: p, heap, signs and the line; places 1 to longest."""
    for number in range(often):
        p = PRIMES[number % 4]
        places = 1 + number % longest
        heap, signs = random_heap(rng, places, most), random_signs(rng, places)
        yield p, heap, signs, drawn(rng, p, heap, signs)


def told_anew(rng, line, kept=()):
    """The line told in other drawn bases, at the places kept in its own."""
    bases = bases_for(rng, line[0], line[1])
    return changed_line(line, tuple(same_rows(len(base)) if k in kept else base for k, base in enumerate(bases)))


def stretches(places):
    return [(a, b) for a in range(places) for b in range(a, places)]


def heap_by_ranks(line):
    """The heap of a line by [15], its ranks counted over all entries."""
    places = len(line[1])
    ranks = {stretch: rank_by_count(line, *stretch) for stretch in stretches(places)}
    piles = []
    for a, b in stretches(places):
        often = ranks[a, b] - ranks.get((a - 1, b), 0) - ranks.get((a, b + 1), 0) + ranks.get((a - 1, b + 1), 0)
        if often:
            piles.append((a, b, often))
    return tuple(piles)


def flag_by_sets(line):
    """The left flag of a line by [9], each part told by all its entries."""
    p, widths, maps = line
    steps = [(0, frozenset(all_entries(p, widths[0])))]
    for k, (sign, table) in enumerate(maps):
        room = all_entries(p, widths[k + 1])
        if sign == ">":
            steps = [(day, frozenset(lead(p, widths[k + 1], table, x) for x in held)) for day, held in steps]
            steps = steps + [(k + 1, frozenset(room))]
        else:
            nought = frozenset([(0,) * widths[k]])
            steps = [(k + 1, nought)] + steps
            steps = [(day, frozenset(x for x in room if lead(p, widths[k], table, x) in held)) for day, held in steps]
        kept = []
        for day, held in steps:
            if len(held) > (len(kept[-1][1]) if kept else 1):
                kept.append((day, held))
        steps = kept
    return tuple((day, base_of_set(p, widths[-1], held)) for day, held in steps if len(held) > 1)


def turned(line):
    """The line with its places in the other sequence."""
    p, widths, maps = line
    return p, widths[::-1], tuple(("<" if sign == ">" else ">", table) for sign, table in reversed(maps))


def birth_sequence(signs):
    """The places in the sequence in which birthdays follow in a left flag."""
    days = [0]
    for k, sign in enumerate(signs):
        days = days + [k + 1] if sign == ">" else [k + 1] + days
    return days


def combos(rng, p, many):
    """Numbers from 0 to p - 1, so many."""
    return [rng.randrange(p) for _ in range(many)]


def rank_of_rows(p, rows):
    """How many of some rows of numbers are needed to make up all of them."""
    rows = [list(row) for row in rows]
    done = 0
    for at in range(len(rows[0]) if rows else 0):
        found = [k for k in range(done, len(rows)) if rows[k][at] % p]
        if found:
            rows[done], rows[found[0]] = rows[found[0]], rows[done]
            back = [n for n in range(p) if n * rows[done][at] % p == 1][0]
            for k in range(done + 1, len(rows)):
                number = rows[k][at] * back
                rows[k] = [(x - number * y) % p for x, y in zip(rows[k], rows[done])]
            done += 1
    return done


def flat(tables):
    """All numbers of some tables in one row."""
    return [number for table in tables for row in table for number in row]
