"""Heaps of bars, and the plain lines that have them."""

from staybars.entries import GREATEST_WIDTH, check_prime
from staybars.errors import BadBars, BadHeap, BadPair, BadPlaces, BadSigns, BadStretch
from staybars.kinds import is_from_to, is_stretch_of, is_tuple_long
from staybars.lines import MOST_PLACES, along, is_sign
from staybars.sums import noughts, one_at


def check_places(places):
    """Raise BadPlaces for any value that is no number of places."""
    if not is_from_to(places, 1, MOST_PLACES):
        raise BadPlaces(places)


def is_pile(places, value):
    """Whether any value is a stretch of these places with how often it stands."""
    if not is_tuple_long(value, 3):
        return False
    return is_stretch_of(places, value[:2]) and is_from_to(value[2], 1, GREATEST_WIDTH)


def covered(places, heap):
    """The list of how many bars cover each place."""
    return [sum([often for a, b, often in heap if a <= k <= b]) for k in range(places)]


def is_too_high(places, heap):
    """Whether a place is covered by more bars than a room may be wide."""
    return max(covered(places, heap)) > GREATEST_WIDTH


def is_heap(places, value):
    """Whether any value is a heap of bars of so many places."""
    check_places(places)
    if not isinstance(value, tuple) or not all([is_pile(places, pile) for pile in value]):
        return False
    stretches = [pile[:2] for pile in value]
    if any([stretches[k] >= stretches[k + 1] for k in range(len(stretches) - 1)]):
        return False
    return not is_too_high(places, value)


def check_heap(places, heap):
    """Raise BadHeap for any value that is no heap of so many places."""
    if not is_heap(places, heap):
        raise BadHeap(heap)


def check_places_heap(places, heap):
    """Raise BadPlaces for the places, then BadHeap for the heap."""
    check_places(places)
    check_heap(places, heap)


def check_stretch(places, a, b):
    """Raise BadStretch for any values that are no stretch of so many places."""
    if not is_stretch_of(places, (a, b)):
        raise BadStretch((a, b))


def bars_in(heap):
    """The list of the bars of what is known to be a heap, ascending."""
    return [(a, b) for a, b, often in heap for _ in range(often)]


def piled(piles):
    """The tuple of some piles (a, b, often), those of one stretch counted together."""
    counts = {}
    for a, b, often in piles:
        counts[(a, b)] = counts.get((a, b), 0) + often
    return tuple([(a, b, counts[(a, b)]) for a, b in sorted(counts)])


def piles_more(one, other):
    """The heap of the bars of the one heap that it has oftener than the other, as often as it has them more."""
    held = {(a, b): often for a, b, often in other}
    more = [(a, b, often - held.get((a, b), 0)) for a, b, often in one]
    return tuple([pile for pile in more if pile[2] > 0])


def turnover(elder, later):
    """The heaps of the bars that went and of those that came from an elder heap to a later one."""
    return piles_more(elder, later), piles_more(later, elder)


def bars_of(places, heap):
    """The list of the heap's bars, each stretch so often as it stands, ascending."""
    check_places_heap(places, heap)
    return bars_in(heap)


def heap_of(places, bars):
    """The heap of a list of stretches in any sequence."""
    check_places(places)
    if not isinstance(bars, list) or not all([is_stretch_of(places, bar) for bar in bars]):
        raise BadBars(bars)
    heap = piled([(a, b, 1) for a, b in bars])
    if is_too_high(places, heap):
        raise BadBars(bars)
    return heap


def widths_of(places, heap):
    """The tuple of how many bars cover each place."""
    check_places_heap(places, heap)
    return tuple(covered(places, heap))


def many_over(heap, a, b):
    """How many bars of what is known to be a heap cover all places from a to b."""
    return sum([often for first, last, often in heap if first <= a and b <= last])


def bars_covering(places, heap, a, b):
    """How many bars cover all places from a to b."""
    check_places_heap(places, heap)
    check_stretch(places, a, b)
    return many_over(heap, a, b)


def cut_heap(places, heap, first, last):
    """The heap of the places from first to last alone, numbered anew from 0."""
    check_places_heap(places, heap)
    check_stretch(places, first, last)
    met = [(a, b, often) for a, b, often in heap if a <= last and b >= first]
    return piled([(max(a, first) - first, min(b, last) - first, often) for a, b, often in met])


def mirrored_heap(places, heap):
    """The heap of the places in the other sequence."""
    check_places_heap(places, heap)
    return piled([(places - 1 - b, places - 1 - a, often) for a, b, often in heap])


def both_heaps(places, one, other):
    """The heap of the bars of two heaps together."""
    check_places_heap(places, one)
    check_heap(places, other)
    both = piled(one + other)
    if is_too_high(places, both):
        raise BadPair((one, other))
    return both


def are_signs(value):
    """Whether any value is the signs of a line."""
    if not isinstance(value, tuple) or len(value) >= MOST_PLACES:
        return False
    return all([is_sign(sign) for sign in value])


def check_signs(signs):
    """Raise BadSigns for any value that is not the signs of a line."""
    if not are_signs(signs):
        raise BadSigns(signs)


def numbers_over(bars, place):
    """The numbers, in the list of bars, of those that stand over a place."""
    return [number for number, (a, b) in enumerate(bars) if a <= place <= b]


def plain_table(here, there):
    """The table that leads each of the bars over here to itself, or to nought if it is not there."""
    width = len(there)
    rows = []
    for number in here:
        if number in there:
            rows.append(one_at(width, there.index(number)))
        else:
            rows.append(noughts(width))
    return tuple(rows)


def plain_line(p, heap, signs):
    """The plain line of a heap of one place more than there are signs."""
    check_prime(p)
    check_signs(signs)
    places = len(signs) + 1
    check_heap(places, heap)
    bars = bars_in(heap)
    over = [numbers_over(bars, place) for place in range(places)]
    maps = []
    for k, sign in enumerate(signs):
        here, there = along(sign, over[k], over[k + 1])
        maps.append((sign, plain_table(here, there)))
    return p, tuple([len(numbers) for numbers in over]), tuple(maps)
