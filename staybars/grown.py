"""Nets that grow: the names of their groups, and how far one is shifted against another."""

from staybars.entries import check_prime
from staybars.errors import BadPair, BadShift, NotGrowing
from staybars.kinds import is_from_to
from staybars.lines import FORTH
from staybars.nets import check_day, check_net, is_growing
from staybars.nettables import check_kind, line_of_rooms, room_of, table_into
from staybars.plain import check_point, groups_on, there_on

GREATEST_SHIFT = 20


def check_growing(net):
    """Raise NotGrowing for what is known to be a net and does not grow."""
    if not is_growing(net):
        raise NotGrowing(net)


def check_grown_net(net):
    """Raise BadNet for what is no net, then NotGrowing for one that does not grow."""
    check_net(net)
    check_growing(net)


def days_line(net, what, p):
    """The line of days of the groups or of the rings of a net that grows."""
    check_grown_net(net)
    check_kind(what)
    check_prime(p)
    theres = [there_on(net, day) for day in range(net[0] + 1)]
    return line_of_rooms(net, what, p, (FORTH,) * net[0], theres)


def name_of_group(net, group):
    """The number of that point of a group whose life begins first."""
    return min([(net[1][point][0], point) for point in group])[1]


def name_on(net, day, point):
    """The name of the group of a point on a day, None if the point isn't there yet."""
    check_grown_net(net)
    check_day(day, net[0])
    check_point(net, point)
    for group in groups_on(net, day):
        if point in group:
            return name_of_group(net, group)
    return None


def elder_names(net):
    """The ascending list of (name, first, end) for all names that are borne."""
    check_grown_net(net)
    days = {}
    for day in range(net[0] + 1):
        for group in groups_on(net, day):
            days.setdefault(name_of_group(net, group), []).append(day)
    return [(name, days[name][0], days[name][-1]) for name in sorted(days)]


def are_like_nets(net, other):
    """Whether two nets have the same last day, as many points, and ties of the same two points."""
    if net[0] != other[0] or len(net[1]) != len(other[1]):
        return False
    return [tie[:2] for tie in net[2]] == [tie[:2] for tie in other[2]]


def check_two_grown(net, other):
    """Raise BadNet for the one, for the other, NotGrowing for the one, for the other, then BadPair."""
    check_net(net)
    check_net(other)
    check_growing(net)
    check_growing(other)
    if not are_like_nets(net, other):
        raise BadPair((net, other))


def first_days(net):
    """The list of the first days of the points and of the ties of a net."""
    return [life[0] for life in net[1]] + [tie[2] for tie in net[2]]


def least_shift(net, other):
    """The least number of days by which the first days of two like nets are apart at most."""
    return max([abs(one - then) for one, then in zip(first_days(net), first_days(other))], default=0)


def shift_of(net, other):
    """The least e by which the first days of the one are at most e from those of the other."""
    check_two_grown(net, other)
    return least_shift(net, other)


def tables_to(net, other, e, what, p):
    """The tables that lead what stands in the one net on each day into what stands in the other e days on."""
    tables = []
    for day in range(net[0] + 1):
        here = room_of(net, what, p, there_on(net, day))
        there = room_of(other, what, p, there_on(other, min(day + e, net[0])))
        tables.append(table_into(what, here, there))
    return tuple(tables)


def tables_of_nets(net, other, e, what, p):
    """The tables there and back by which points, or ties, of the one net are those of the other e days on."""
    check_two_grown(net, other)
    if not is_from_to(e, least_shift(net, other), GREATEST_SHIFT):
        raise BadShift(e)
    check_kind(what)
    check_prime(p)
    return tables_to(net, other, e, what, p), tables_to(other, net, e, what, p)
