"""Heaps of the groups and of the rings of a net, and how those by unions and by meets tell one another."""

from staybars.bars import is_heap, piled
from staybars.errors import BadHeap, BadNumber
from staybars.flags import heap_of_line
from staybars.kinds import is_from_to
from staybars.netlines import MEETS, UNIONS, check_net_way, check_way, line_of_net
from staybars.nets import GREATEST_LAST, check_net
from staybars.nettables import GROUPS, RINGS
from staybars.plain import groups_on, groups_over

# The heaps are the same for every prime.
ANY_PRIME = 2


def heap_of_net(net, kind, way):
    """The heap of groups or of rings of what is known to be a net."""
    return heap_of_line(line_of_net(net, kind, way, ANY_PRIME))


def net_heaps(net, way):
    """The heaps of the line of groups and of the line of rings."""
    check_net_way(net, way)
    return heap_of_net(net, GROUPS, way), heap_of_net(net, RINGS, way)


def is_odd(place):
    """Whether a place stands between two days."""
    return place // 2 * 2 != place


def is_between(a, b):
    """Whether a bar stands on just one place between two days."""
    return a == b and is_odd(a)


def turned_begin(a):
    """Where a bar that begins at a place begins by the other way."""
    if a == 0:
        return 0
    return a + 1 if is_odd(a) else a - 1


def turned_end(b, last):
    """Where a bar that ends at a place ends by the other way."""
    if b == last:
        return last
    return b - 1 if is_odd(b) else b + 1


def turned_piles(heap, last):
    """The piles of the bars by the other way, of those of a heap that stand on a day at least."""
    kept = [pile for pile in heap if not is_between(pile[0], pile[1])]
    return [(turned_begin(a), turned_end(b, last), often) for a, b, often in kept]


def piles_between(heap):
    """The piles of a heap that stand on just one place between two days."""
    return [pile for pile in heap if is_between(pile[0], pile[1])]


def check_tide(days, heap, may_be_between):
    """Raise BadHeap for any value that is no heap of a net with so many days."""
    if not is_heap(2 * days - 1, heap):
        raise BadHeap(heap)
    if not may_be_between and piles_between(heap):
        raise BadHeap(heap)


def turned_over(way, days, groups_heap, rings_heap):
    """The heaps of groups and of rings by the other way, of a net whose heaps these are by the way."""
    check_way(way)
    if not is_from_to(days, 1, GREATEST_LAST + 1):
        raise BadNumber(days)
    check_tide(days, groups_heap, way == MEETS)
    check_tide(days, rings_heap, way == UNIONS)
    last = 2 * days - 2
    groups = turned_piles(groups_heap, last) + piles_between(rings_heap)
    rings = turned_piles(rings_heap, last) + piles_between(groups_heap)
    return piled(groups), piled(rings)


def over_from(groups, over):
    """How many groups over two days have a point of some groups of the one day."""
    return len([group for group in over if any([held[0] in group for held in groups])])


def plain_ends_at(net, day):
    """The four numbers of ends and beginnings between a day and the next one."""
    now, over, then = groups_on(net, day), groups_over(net, day), groups_on(net, day + 1)
    met_now, met_then = over_from(now, over), over_from(then, over)
    return len(now) - met_now, len(over) - met_now, len(over) - met_then, len(then) - met_then


def plain_ends(net):
    """For each day but the last how many bars of groups by unions end and begin on the way to the next one."""
    check_net(net)
    return [plain_ends_at(net, day) for day in range(net[0])]
