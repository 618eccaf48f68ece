"""Forth lines thought on for ever, told step by step, and heaps whose bars are moved: what stages 21 to 23 are held against."""

from tests.drawn import drawn
from tests.rooms import PRIMES, add, lead, random_heap, random_table


def forth_line(rng, p, widths):
    """A forth line with these widths."""
    maps = [(">", random_table(rng, p, a, b)) for a, b in zip(widths, widths[1:])]
    return p, tuple(widths), tuple(maps)


def drawn_forth(rng, p, places, heap):
    """A forth line with this heap, told in drawn bases."""
    return drawn(rng, p, heap, (">",) * (places - 1))


def width_at(line, k):
    """How wide the room at place k of a line that is thought on is."""
    return line[1][k] if k < len(line[1]) else line[1][-1]


def one_on(line, k, x):
    """Where the map from place k of a line that is thought on leads an entry."""
    if k >= len(line[2]):
        return x
    return lead(line[0], line[1][k + 1], line[2][k][1], x)


def walked_on(line, k, x, many):
    """Where an entry of the room at place k comes so many places on, map by map."""
    for place in range(k, k + many):
        x = one_on(line, place, x)
    return x


def units(width):
    return [tuple(int(i == j) for j in range(width)) for i in range(width)]


def table_at(tables, k):
    """The table of such a tuple at place k, also beyond the last one."""
    return tables[k] if k < len(tables) else tables[-1]


def are_tables(p, widths, others, tables):
    """Whether a value is a tuple with a table of the right widths for each place, strictly."""
    if not isinstance(tables, tuple) or len(tables) != len(widths):
        return False
    for a, b, table in zip(widths, others, tables):
        if not isinstance(table, tuple) or len(table) != a:
            return False
        for row in table:
            if not isinstance(row, tuple) or len(row) != b or any(type(n) is not int or not 0 <= n < p for n in row):
                return False
    return True


def tables_on_by_words(one, other, e, tables):
    """Whether a value is tables e places on by the words of [19], looked at some places beyond the last one, too."""
    p, places = one[0], len(one[1])
    if not are_tables(p, one[1], [width_at(other, k + e) for k in range(places)], tables):
        return False
    for k in range(places + 3):
        for x in units(width_at(one, k)):
            first = lead(p, width_at(other, k + 1 + e), table_at(tables, k + 1), one_on(one, k, x))
            second = one_on(other, k + e, lead(p, width_at(other, k + e), table_at(tables, k), x))
            if first != second:
                return False
    return True


def round_by_words(one, other, e, there, back):
    """Whether there and then back leads as the one's own maps 2 e places on, also beyond the last place."""
    p = one[0]
    for k in range(len(one[1]) + 3):
        for x in units(width_at(one, k)):
            between = lead(p, width_at(other, k + e), table_at(there, k), x)
            if lead(p, width_at(one, k + 2 * e), table_at(back, k + e), between) != walked_on(one, k, x, 2 * e):
                return False
    return True


def there_and_back_by_words(one, other, e, value):
    """Whether a value is tables there and back by the words of [19]."""
    if not isinstance(value, tuple) or len(value) != 2:
        return False
    there, back = value
    if not tables_on_by_words(one, other, e, there) or not tables_on_by_words(other, one, e, back):
        return False
    return round_by_words(one, other, e, there, back) and round_by_words(other, one, e, back, there)


def bars(heap):
    return [(a, b) for a, b, often in heap for _ in range(often)]


def counted(found):
    """The heap of some stretches."""
    return tuple((a, b, found.count((a, b))) for a, b in sorted(set(found)))


def fit_by_words(places, one, other, e):
    """Whether two bars fit, by the words of [19]."""
    (a, b), (c, d) = one, other
    if abs(a - c) > e:
        return False
    if b == places - 1 and d == places - 1:
        return True
    return b != places - 1 and d != places - 1 and abs(b - d) <= e


def long_by_words(places, bar, e):
    a, b = bar
    return b == places - 1 or b - a + 1 > 2 * e


def moved_bar(rng, places, bar, e):
    """A bar that fits this one for e, or None where no bar was found."""
    a, b = bar
    for _ in range(20):
        c, d = a + rng.randrange(-e, e + 1), b + rng.randrange(-e, e + 1)
        if b == places - 1:
            d = b
        if 0 <= c <= d < places and (d == places - 1) == (b == places - 1):
            return c, d
    return None


def cover(places, found):
    return max(sum(a <= k <= b for a, b in found) for k in range(places))


def moved_pair(rng, places, e, most=5):
    """A heap, another one of its bars moved by at most e, short ones left out or put in."""
    while True:
        first = bars(random_heap(rng, places, most))
        second = [moved_bar(rng, places, bar, e) for bar in first]
        if None in second:
            continue
        kept = [k for k in range(len(first)) if long_by_words(places, first[k], e) or long_by_words(places, second[k], e) or rng.randrange(2)]
        second = [second[k] for k in kept]
        extra = [bar for bar in bars(random_heap(rng, places, 2)) if not long_by_words(places, bar, e)]
        second = second + extra
        if not second or cover(places, second) <= 8:
            return counted(first), counted(second)


def heap_pairs(rng, often, longest=9, most=4):
    """Pairs of heaps of so many places: moved by some e, or drawn apart with as many that go on, or quite apart."""
    for number in range(often):
        places = rng.randrange(1, longest + 1)
        if number % 3 == 0:
            yield (places,) + moved_pair(rng, places, rng.randrange(4), most)
        elif number % 3 == 1:
            one, other = bars(random_heap(rng, places, most)), bars(random_heap(rng, places, most))
            going, others = ([bar for bar in held if bar[1] == places - 1] for held in (one, other))
            many = min(len(going), len(others))
            one = [bar for bar in one if bar[1] < places - 1] + going[:many]
            other = [bar for bar in other if bar[1] < places - 1] + others[:many]
            yield places, counted(one), counted(other)
        else:
            yield places, random_heap(rng, places, most), random_heap(rng, places, most)


def all_small_heaps(places, most):
    """All heaps that have at most so many bars."""
    stretches = [(a, b) for a in range(places) for b in range(a, places)]
    found = [[]]
    grown = [[]]
    for _ in range(most):
        grown = [held + [bar] for held in grown for bar in stretches if not held or held[-1] <= bar]
        found = found + grown
    return [counted(held) for held in found]


def primes_in_turn(number):
    return PRIMES[number % 4]


def sum_of_rows(p, rows, numbers, width):
    """The sum of some rows, each taken times its number."""
    total = (0,) * width
    for row, number in zip(rows, numbers):
        total = add(p, total, tuple(number * n % p for n in row))
    return total
