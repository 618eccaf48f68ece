"""How many lines, maps and heaps there are of a kind, in whole numbers."""

from staybars.bars import check_heap, check_signs, covered, piled
from staybars.crossings import width_of_crossings
from staybars.entries import check_prime, check_room, check_width
from staybars.errors import BadWidths, TooMany
from staybars.flags import heap_of_line
from staybars.joints import check_joining, check_sign, check_two_halves, heap_joined
from staybars.lines import are_widths, signs_in

MOST_HEAPS = 1000


def power(p, many):
    """The number p, taken so many times with itself."""
    number = 1
    for _ in range(many):
        number = number * p
    return number


def rows_apart(p, width, few):
    """How many tuples of so few entries of a room there are of which none is a sum of multiples of those ahead."""
    many = 1
    for ahead in range(few):
        many = many * (power(p, width) - power(p, ahead))
    return many


def count_squares(p, width):
    """The number of squares of this width that have a back."""
    check_room(p, width)
    return rows_apart(p, width, width)


def count_parts(p, width, few):
    """The number of parts of width few that a room has."""
    check_room(p, width)
    check_width(few)
    return rows_apart(p, width, few) // rows_apart(p, few, few)


def squares_of(p, widths):
    """The product of the numbers of squares of some widths that have a back."""
    many = 1
    for width in widths:
        many = many * rows_apart(p, width, width)
    return many


def group_by(p, heap, signs):
    """The number of the group of the plain line of what is known to be a heap."""
    oftens = [often for _, _, often in heap]
    beyond = width_of_crossings(signs, heap, heap) - sum([often * often for often in oftens])
    return squares_of(p, oftens) * power(p, beyond)


def check_plain(p, heap, signs):
    """Raise BadPrime for p, BadSigns for the signs, then BadHeap for the heap."""
    check_prime(p)
    check_signs(signs)
    check_heap(len(signs) + 1, heap)


def group_of(p, heap, signs):
    """The number of the group of the plain line of a heap."""
    check_plain(p, heap, signs)
    return group_by(p, heap, signs)


def lines_with(p, heap, signs):
    """How many lines of these signs and of the widths of the plain line have this heap."""
    check_plain(p, heap, signs)
    return squares_of(p, covered(len(signs) + 1, heap)) // group_by(p, heap, signs)


def ways_on(standing, width):
    """All tuples of how many of the standing bars go on, at most as many as a room is wide together."""
    found = [()]
    for _, many in standing:
        found = [going + (few,) for going in found for few in range(min(many, width - sum(going)) + 1)]
    return found


def heap_on(ended, standing, k, width, going):
    """The piles that ended by place k, and the bars that stand at the next one, when so many go on."""
    stopped = [(a, k, many - few) for (a, many), few in zip(standing, going) if few < many]
    on = [(a, few) for (a, _), few in zip(standing, going) if few > 0]
    born = width - sum(going)
    if born > 0:
        on.append((k + 1, born))
    return ended + stopped, on


def heaps_on(found, k, width):
    """All heaps begun up to place k, told by ended piles and standing bars, led on to a room of this width."""
    further = []
    for ended, standing in found:
        # Each of these comes to one heap at least, so there are too many as soon as these are.
        further.extend([heap_on(ended, standing, k, width, going) for going in ways_on(standing, width)])
        if len(further) > MOST_HEAPS:
            raise TooMany(MOST_HEAPS)
    return further


def heaps_with(widths):
    """The list of all heaps whose plain lines have these widths, ascending."""
    if not are_widths(widths):
        raise BadWidths(widths)
    found = [heap_on([], [], -1, widths[0], ())]
    for k in range(len(widths) - 1):
        found = heaps_on(found, k, widths[k + 1])
    last = len(widths) - 1
    return sorted([piled(ended + [(a, last, many) for a, many in standing]) for ended, standing in found])


def maps_with(left, right, sign, value):
    """How many tables between a left half and a right half make this joining."""
    check_two_halves(left, right)
    check_sign(sign)
    check_joining(left, right, value)
    p, first, second = left[0], signs_in(left), signs_in(right)
    groups = group_by(p, heap_of_line(left), first) * group_by(p, heap_of_line(right), second)
    return groups // group_by(p, heap_joined(left, right, value), first + (sign,) + second)
