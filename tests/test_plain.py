"""[6], stage 3: groups and rings, counted by walking along ties."""

import random
import unittest

from staybars.errors import BadDay, BadDays, BadNet, BadPoint
from staybars.nets import points_on, ties_on
from staybars.plain import are_together, groups_both, groups_on, groups_over
from staybars.plain import rings_both, rings_on, rings_over, who_follows
from tests.helpers import Checks, odd_values
from tests.test_nets import FULL, TRIP, random_net


def walked_groups(points, ties):
    """The groups of some points and ties, found by walking from each point."""
    groups = []
    for start in sorted(points):
        if not any(start in group for group in groups):
            seen = {start}
            todo = [start]
            while todo:
                point = todo.pop()
                for one, other in ties:
                    for here, there in ((one, other), (other, one)):
                        if here == point and there not in seen:
                            seen.add(there)
                            todo.append(there)
            groups.append(sorted(seen))
    return groups


def there(net, days, every):
    """The points and the ties that are there on every one, or on any one, of some days."""
    rule = all if every else any
    points = [k for k in range(len(net[1])) if rule(net[1][k][0] <= d <= net[1][k][1] for d in days)]
    ties = [tie[:2] for tie in net[2] if rule(tie[2] <= d <= tie[3] for d in days)]
    return points, ties


class TestGroupsAndRings(Checks):
    def held_against(self, net, day, days, every, groups_of, rings_of):
        points, ties = there(net, days, every)
        groups = groups_of(net, day)
        self.assertEqual(groups, walked_groups(points, ties))
        self.assertEqual(len(groups) - rings_of(net, day), len(points) - len(ties))
        self.assertGreaterEqual(rings_of(net, day), 0)

    def test_random_nets(self):
        rng = random.Random(11)
        for _ in range(300):
            net = random_net(rng)
            for day in range(net[0] + 1):
                self.held_against(net, day, [day], True, groups_on, rings_on)
            for day in range(net[0]):
                self.held_against(net, day, [day, day + 1], False, groups_over, rings_over)
                self.held_against(net, day, [day, day + 1], True, groups_both, rings_both)

    def test_groups_less_rings_are_points_less_ties(self):
        for net in (TRIP, FULL):
            for day in range(net[0] + 1):
                count = len(points_on(net, day)) - len(ties_on(net, day))
                self.assertEqual(len(groups_on(net, day)) - rings_on(net, day), count)

    def test_no_points(self):
        net = (1, (), ())
        self.assertEqual([groups_on(net, 0), groups_over(net, 0), groups_both(net, 0), who_follows(net, 0)], [[], [], [], []])
        self.assertEqual([rings_on(net, 1), rings_over(net, 0), rings_both(net, 0)], [0, 0, 0])

    def test_full_net(self):
        self.assertEqual(groups_on(FULL, 8), [[0, 1, 2, 3, 4, 5, 6]])
        self.assertEqual([rings_on(FULL, 0), rings_over(FULL, 7), rings_both(FULL, 7)], [3, 3, 3])
        lone = (8, ((0, 8),) * 7, ())
        self.assertEqual(groups_on(lone, 8), [[0], [1], [2], [3], [4], [5], [6]])

    def test_several_ties_of_the_same_two_points(self):
        net = (2, ((0, 2), (0, 2)), ((0, 1, 0, 2), (0, 1, 1, 1), (0, 1, 1, 2)))
        self.assertEqual([rings_on(net, day) for day in range(3)], [0, 2, 1])
        self.assertEqual([rings_over(net, 0), rings_over(net, 1), rings_both(net, 0), rings_both(net, 1)], [2, 2, 0, 1])

    def test_groups_stand_by_their_least_points(self):
        net = (0, ((0, 0),) * 6, ((1, 5, 0, 0), (0, 4, 0, 0), (4, 5, 0, 0), (2, 3, 0, 0)))
        self.assertEqual(groups_on(net, 0), [[0, 1, 4, 5], [2, 3]])

    def test_over_takes_what_comes_and_what_goes(self):
        net = (1, ((0, 0), (0, 1), (1, 1)), ((0, 1, 0, 0), (1, 2, 1, 1)))
        self.assertEqual([groups_over(net, 0), groups_both(net, 0)], [[[0, 1, 2]], [[1]]])

    def test_a_tie_of_one_day_does_not_bind_both_days(self):
        net = (1, ((0, 1), (0, 1)), ((0, 1, 0, 0), (0, 1, 1, 1)))
        self.assertEqual([groups_on(net, 0), groups_on(net, 1), groups_both(net, 0)], [[[0, 1]], [[0, 1]], [[0], [1]]])
        self.assertEqual([rings_over(net, 0), rings_both(net, 0)], [1, 0])


class TestErrors(Checks):
    def test_days(self):
        for call in (groups_on, rings_on):
            for net in (TRIP, (0, (), ())):
                call(net, 0)
                call(net, net[0])
                for day in (-1, net[0] + 1, True, False, None, "0", 10 ** 40, [], (0,)):
                    self.raises(BadDay, day, call, net, day)

    def test_two_days(self):
        for call in (groups_over, rings_over, groups_both, rings_both, who_follows):
            call(TRIP, 0)
            call(TRIP, 2)
            for day in (-1, 3, 4, True, False, None, "0", 10 ** 40, [], (0,)):
                self.raises(BadDay, day, call, TRIP, day)
            for day in (-1, 0, 1, False):
                self.raises(BadDay, day, call, (0, ((0, 0),), ()), day)

    def test_no_net(self):
        for odd in odd_values():
            for call in (groups_on, rings_on, groups_over, rings_over, groups_both, rings_both, who_follows):
                self.raises(BadNet, odd, call, odd, None)
            self.raises(BadNet, odd, are_together, odd, None, None, None, None)


class TestWhoFollows(Checks):
    def test_random_nets(self):
        rng = random.Random(12)
        for _ in range(200):
            net = random_net(rng)
            for day in range(net[0]):
                now = walked_groups(*there(net, [day], True))
                then = walked_groups(*there(net, [day + 1], True))
                over = walked_groups(*there(net, [day, day + 1], False))
                wanted = []
                for i, group in enumerate(now):
                    for j, other in enumerate(then):
                        if any(set(group) <= set(held) and set(other) <= set(held) for held in over):
                            wanted.append((i, j))
                self.assertEqual(who_follows(net, day), wanted)

    def test_a_group_that_splits_and_one_that_goes(self):
        net = (1, ((0, 1), (0, 1), (0, 0)), ((0, 1, 0, 0),))
        self.assertEqual(who_follows(net, 0), [(0, 0), (0, 1)])


class TestTogether(Checks):
    def test_random_nets(self):
        rng = random.Random(13)
        for _ in range(100):
            net = random_net(rng, 4)
            many = len(net[1])
            daily = [walked_groups(*there(net, [day], True)) for day in range(5)]
            for first in range(5):
                for last in range(first, 5):
                    for one in range(many):
                        for other in range(many):
                            wanted = all(
                                any(one in group and other in group for group in daily[day])
                                for day in range(first, last + 1)
                            )
                            self.tells(wanted, are_together, net, one, other, first, last)

    def test_errors(self):
        for point in (-1, 3, True, False, None, "0", 10 ** 40, [], (0,)):
            self.raises(BadPoint, point, are_together, TRIP, point, 0, 0, 1)
            self.raises(BadPoint, point, are_together, TRIP, 0, point, 0, 1)
        for first, last in [(2, 1), (-1, 0), (0, 4), (True, 2), (0, True), (None, None), ([], 1)]:
            self.raises_tuple(BadDays, (first, last), are_together, TRIP, 0, 1, first, last)
        self.raises(BadPoint, 0, are_together, (0, (), ()), 0, 0, 0, 0)


if __name__ == "__main__":
    unittest.main()
