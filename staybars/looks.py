"""Ranks: how many bars cover all of a stretch, and what they tell."""

from staybars.bars import check_heap, check_places, check_places_heap, is_too_high, many_over
from staybars.errors import BadLooks, BadRanks
from staybars.kinds import is_stretch_of, is_whole
from staybars.lines import FORTH, check_line, check_line_stretch
from staybars.spans import fetched_base, led_base
from staybars.sums import same_rows


def fit_along(line, a, b, base):
    """The part of all last entries of rows that fit from a to b and begin in a part."""
    p, widths, maps = line
    for k in range(a, b):
        sign, table = maps[k]
        if sign == FORTH:
            base = led_base(p, widths[k + 1], table, base)
        else:
            base = fetched_base(p, widths[k], table, base)
    return base


def rank_of(line, a, b):
    """How many bars of the line cover all places from a to b."""
    check_line(line)
    check_line_stretch(line, a, b)
    width = line[1][a]
    return len(fit_along(line, a, b, same_rows(width))) - len(fit_along(line, a, b, ()))


def stretches_of(places):
    """The list of all stretches of so many places, ascending."""
    return [(a, b) for a in range(places) for b in range(a, places)]


def ranks_of(places, heap):
    """The dict of how many bars cover all of each stretch."""
    check_places_heap(places, heap)
    return {(a, b): many_over(heap, a, b) for a, b in stretches_of(places)}


def often_by(ranks, a, b):
    """How often a stretch stands by these ranks."""
    wider = ranks.get((a - 1, b), 0) + ranks.get((a, b + 1), 0)
    return ranks[(a, b)] - wider + ranks.get((a - 1, b + 1), 0)


def piles_by(places, ranks):
    """The tuple of all stretches that stand by these ranks, with how often they do."""
    piles = [(a, b, often_by(ranks, a, b)) for a, b in stretches_of(places)]
    return tuple([pile for pile in piles if pile[2] != 0])


def are_ranks(places, value):
    """Whether any value is the ranks of some heap of so many places."""
    check_places(places)
    if not isinstance(value, dict) or len(value) != len(stretches_of(places)):
        return False
    if not all([is_stretch_of(places, key) and is_whole(value[key]) for key in value]):
        return False
    piles = piles_by(places, value)
    return all([pile[2] > 0 for pile in piles]) and not is_too_high(places, piles)


def heap_of_ranks(places, ranks):
    """The heap that has these ranks."""
    check_places(places)
    if not are_ranks(places, ranks):
        raise BadRanks(ranks)
    return piles_by(places, ranks)


def check_looks(places, looks):
    """Raise BadLooks for any value that is no list of stretches of these places."""
    if not isinstance(looks, list) or not all([is_stretch_of(places, look) for look in looks]):
        raise BadLooks(looks)


def unlike_heaps(a, b):
    """Two heaps whose ranks are unlike at the stretch (a, b) alone."""
    if a == b:
        return ((a, a, 1),), ()
    if a + 1 == b:
        return ((a, b, 1),), ((a, a, 1), (b, b, 1))
    return ((a, b, 1), (a + 1, b - 1, 1)), ((a, b - 1, 1), (a + 1, b, 1))


def looks_enough(places, looks):
    """None if the looks tell all heaps apart, otherwise two unlike heaps that they do not."""
    check_places(places)
    check_looks(places, looks)
    for a, b in stretches_of(places):
        if (a, b) not in looks:
            return unlike_heaps(a, b)
    return None


def tells_apart(places, looks, one, other):
    """Whether two heaps have unlike ranks at some look."""
    check_places(places)
    check_looks(places, looks)
    check_heap(places, one)
    check_heap(places, other)
    return any([many_over(one, a, b) != many_over(other, a, b) for a, b in looks])
