"""Nets: points and ties that come and go, day by day."""

from staybars.errors import BadDay, BadDays, BadNet, BadOrder
from staybars.kinds import is_from_to, is_stretch_of, is_tuple_long, is_whole

GREATEST_LAST = 8
MOST_POINTS = 7
MOST_TIES = 9


def is_net(value):
    """Whether any value is a net."""
    if not is_tuple_long(value, 3):
        return False
    last, points, ties = value
    return is_from_to(last, 0, GREATEST_LAST) and are_points(last, points) and are_ties(points, ties)


def are_points(last, value):
    """Whether any value is the points of a net with this last day."""
    if not isinstance(value, tuple) or len(value) > MOST_POINTS:
        return False
    return all([is_stretch_of(last + 1, life) for life in value])


def are_ties(points, value):
    """Whether any value is the ties of a net with these points."""
    if not isinstance(value, tuple) or len(value) > MOST_TIES:
        return False
    return all([is_tie(points, tie) for tie in value])


def is_tie(points, value):
    """Whether any value is a tie of these points, on days within the lives of both."""
    if not is_tuple_long(value, 4):
        return False
    one, other, first, end = value
    if not is_from_to(other, 0, len(points) - 1) or not is_from_to(one, 0, other - 1):
        return False
    born = max(points[one][0], points[other][0])
    gone = min(points[one][1], points[other][1])
    return is_from_to(first, born, gone) and is_from_to(end, first, gone)


def check_net(net):
    """Raise BadNet for any value that is no net."""
    if not is_net(net):
        raise BadNet(net)


def check_day(day, last):
    """Raise BadDay for any value that is no integer from 0 to last."""
    if not is_from_to(day, 0, last):
        raise BadDay(day)


def check_days(net, first, last):
    """Raise BadDays for any values that are no days of the net with first <= last."""
    if not is_stretch_of(net[0] + 1, (first, last)):
        raise BadDays((first, last))


def days_of(net):
    """How many days the net has."""
    check_net(net)
    return net[0] + 1


def is_there(life, day):
    """Whether what has a life (first, end) is there on a day."""
    return life[0] <= day <= life[1]


def lives_in(life, low, high):
    """Whether what has a life (first, end) is there on one at least of the days low to high."""
    return life[0] <= high and life[1] >= low


def points_on(net, day):
    """The ascending list of the numbers of the points that are there on a day."""
    check_net(net)
    check_day(day, net[0])
    return [number for number, life in enumerate(net[1]) if is_there(life, day)]


def ties_on(net, day):
    """The ascending list of the numbers of the ties that are there on a day."""
    check_net(net)
    check_day(day, net[0])
    return [number for number, tie in enumerate(net[2]) if is_there(tie[2:], day)]


def cut_life(life, low, high):
    """A life cut to the days low to high, the first of which is day 0 then."""
    return max(life[0], low) - low, min(life[1], high) - low


def cut_days(net, first, last):
    """The net of the days first to last, and the numbers that its points and ties had."""
    check_net(net)
    check_days(net, first, last)
    _, points, ties = net
    kept_points = [k for k, life in enumerate(points) if lives_in(life, first, last)]
    kept_ties = [k for k, tie in enumerate(ties) if lives_in(tie[2:], first, last)]
    new_points = [cut_life(points[k], first, last) for k in kept_points]
    new_ties = []
    for k in kept_ties:
        ends = (kept_points.index(ties[k][0]), kept_points.index(ties[k][1]))
        new_ties.append(ends + cut_life(ties[k][2:], first, last))
    cut = (last - first, tuple(new_points), tuple(new_ties))
    return cut, tuple(kept_points), tuple(kept_ties)


def turned_net(net):
    """The net with its days in the other sequence."""
    check_net(net)
    last, points, ties = net
    new_points = [(last - end, last - first) for first, end in points]
    new_ties = [(one, other, last - end, last - first) for one, other, first, end in ties]
    return last, tuple(new_points), tuple(new_ties)


def is_growing(net):
    """Whether all points and ties of the net are there on its last day."""
    check_net(net)
    last, points, ties = net
    return all([life[1] == last for life in points]) and all([tie[3] == last for tie in ties])


def is_order(many, value):
    """Whether any value is a tuple with each number below many, once."""
    if not is_tuple_long(value, many) or not all([is_whole(number) for number in value]):
        return False
    return sorted(value) == list(range(many))


def renumbered_net(net, order):
    """The net whose point number i is the point order[i] of the net."""
    check_net(net)
    last, points, ties = net
    if not is_order(len(points), order):
        raise BadOrder(order)
    new_ties = []
    for one, other, first, end in ties:
        here, there = order.index(one), order.index(other)
        new_ties.append((min(here, there), max(here, there), first, end))
    return last, tuple([points[number] for number in order]), tuple(new_ties)
