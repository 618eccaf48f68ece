"""Rooms of the groups and of the rings of what is there in a net, and the tables between them.

What is there is told by two lists: the numbers of points, and the numbers of ties. A room is told by a
list with one thing for each number of its entries: a group, or a row of the base of the ring rows, the
dict of its numbers that aren't 0 by the numbers of their ties.
"""

from staybars.errors import BadKind
from staybars.lines import along
from staybars.plain import groups_of_there
from staybars.spans import fetched_base

GROUPS = "groups"
RINGS = "rings"


def is_net_kind(value):
    """Whether any value is groups or rings."""
    return isinstance(value, str) and value in (GROUPS, RINGS)


def check_kind(kind):
    """Raise BadKind for any value that is neither groups nor rings."""
    if not is_net_kind(kind):
        raise BadKind(kind)


def ends_of_tie(p, many, tie):
    """For each of so many points 1 if it is the other one of a tie, less 1 if it is the one, or 0."""
    one, other = tie[:2]
    return tuple([(int(point == other) - int(point == one)) % p for point in range(many)])


def ring_rows(net, p, ties):
    """The base of the ring rows of the ties with some numbers."""
    many = len(net[1])
    return fetched_base(p, many, tuple([ends_of_tie(p, many, net[2][number]) for number in ties]), ())


def room_of(net, kind, p, there):
    """The list that tells the room of groups or of rings of what is there."""
    if kind == GROUPS:
        return groups_of_there(net, there)
    ties = there[1]
    rows = ring_rows(net, p, ties)
    return [{tie: number for tie, number in zip(ties, row) if number != 0} for row in rows]


def entry_in(kind, thing, room):
    """The entry of a room to which a group, or a ring row, comes."""
    if kind == GROUPS:
        return tuple([int(thing[0] in group) for group in room])
    return tuple([thing.get(min(row), 0) for row in room])


def table_into(kind, here, there):
    """The table from a room to one of something that holds all of what is there in the first one."""
    return tuple([entry_in(kind, thing, there) for thing in here])


def line_of_rooms(net, kind, p, signs, theres):
    """The line of the rooms of groups or of rings of what is there at each place."""
    rooms = [room_of(net, kind, p, there) for there in theres]
    maps = []
    for k, sign in enumerate(signs):
        here, there = along(sign, rooms[k], rooms[k + 1])
        maps.append((sign, table_into(kind, here, there)))
    return p, tuple([len(room) for room in rooms]), tuple(maps)
