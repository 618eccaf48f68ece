"""Groups and rings of a net, counted by its points and ties alone."""

from staybars.errors import BadPoint
from staybars.kinds import is_from_to
from staybars.nets import check_day, check_days, check_net, points_on, ties_on


def groups_among(points, ties):
    """The list of groups of some numbers of points and some ties."""
    groups = [[point] for point in points]
    for tie in ties:
        touched = [group for group in groups if tie[0] in group or tie[1] in group]
        joined = sorted([point for group in touched for point in group])
        groups = [group for group in groups if group not in touched] + [joined]
    return sorted(groups)


def rings_among(points, ties):
    """How many rings some numbers of points and some ties have."""
    return len(ties) - len(points) + len(groups_among(points, ties))


def there_on(net, day):
    """The numbers of the points and of the ties that are there on a day."""
    return points_on(net, day), ties_on(net, day)


def there_over(net, day):
    """The numbers of the points and of the ties that are there on a day or on the next one."""
    points = sorted(set(points_on(net, day)) | set(points_on(net, day + 1)))
    return points, sorted(set(ties_on(net, day)) | set(ties_on(net, day + 1)))


def there_both(net, day):
    """The numbers of the points and of the ties that are there on a day and on the next one."""
    points = sorted(set(points_on(net, day)) & set(points_on(net, day + 1)))
    return points, sorted(set(ties_on(net, day)) & set(ties_on(net, day + 1)))


def groups_of_there(net, there):
    """The list of groups of the points and ties of a net with some numbers."""
    points, ties = there
    return groups_among(points, [net[2][number] for number in ties])


def rings_of_there(net, there):
    """How many rings the points and ties of a net with some numbers have."""
    points, ties = there
    return rings_among(points, [net[2][number] for number in ties])


def check_two_days(net, day):
    """Raise BadNet for what is no net, then BadDay for what is no day that has a next one."""
    check_net(net)
    check_day(day, net[0] - 1)


def groups_on(net, day):
    """The groups of what is there on a day."""
    check_net(net)
    check_day(day, net[0])
    return groups_of_there(net, there_on(net, day))


def rings_on(net, day):
    """How many rings there are in what is there on a day."""
    check_net(net)
    check_day(day, net[0])
    return rings_of_there(net, there_on(net, day))


def groups_over(net, day):
    """The groups of what is there on a day or on the next one."""
    check_two_days(net, day)
    return groups_of_there(net, there_over(net, day))


def rings_over(net, day):
    """How many rings there are in what is there on a day or on the next one."""
    check_two_days(net, day)
    return rings_of_there(net, there_over(net, day))


def groups_both(net, day):
    """The groups of what is there on a day and on the next one."""
    check_two_days(net, day)
    return groups_of_there(net, there_both(net, day))


def rings_both(net, day):
    """How many rings there are in what is there on a day and on the next one."""
    check_two_days(net, day)
    return rings_of_there(net, there_both(net, day))


def are_in_one(groups, one, other):
    """Whether two points are in one and the same of some groups."""
    return any([one in group and other in group for group in groups])


def who_follows(net, day):
    """Which groups of a day lie in one group, over both days, with which ones of the next day."""
    check_two_days(net, day)
    over = groups_over(net, day)
    now, then = groups_on(net, day), groups_on(net, day + 1)
    pairs = [(i, j) for i in range(len(now)) for j in range(len(then))]
    return [(i, j) for i, j in pairs if are_in_one(over, now[i][0], then[j][0])]


def check_point(net, point):
    """Raise BadPoint for any value that is no number of a point of the net."""
    if not is_from_to(point, 0, len(net[1]) - 1):
        raise BadPoint(point)


def are_together(net, one, other, first, last):
    """Whether two points are in one group on each of the days first to last."""
    check_net(net)
    check_point(net, one)
    check_point(net, other)
    check_days(net, first, last)
    return all([are_in_one(groups_on(net, day), one, other) for day in range(first, last + 1)])
