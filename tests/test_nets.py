"""[6], stage 2: nets, and what is cut, turned and renumbered of them."""

import itertools
import random
import unittest

from staybars.errors import BadDay, BadDays, BadNet, BadOrder
from staybars.nets import cut_days, days_of, is_growing, is_net, points_on, renumbered_net, ties_on, turned_net
from tests.helpers import Checks, nested, odd_values

TRIP = (3, ((0, 3), (0, 3), (1, 2)), ((0, 1, 0, 1), (0, 2, 1, 2), (1, 2, 1, 2)))
FULL = (8, ((0, 8),) * 7, tuple((k % 6, 6, 0, 8) for k in range(9)))


def random_net(rng, last=None):
    """A net with several ties of the same two points now and then."""
    last = rng.randrange(9) if last is None else last
    points = []
    for _ in range(rng.randrange(8)):
        first = rng.randrange(last + 1)
        points.append((first, rng.randrange(first, last + 1)))
    ties = []
    for _ in range(rng.randrange(20) if len(points) > 1 else 0):
        one, other = sorted(rng.sample(range(len(points)), 2))
        low, high = max(points[one][0], points[other][0]), min(points[one][1], points[other][1])
        if low <= high and len(ties) < 9:
            first = rng.randrange(low, high + 1)
            ties.append((one, other, first, rng.randrange(first, high + 1)))
    return (last, tuple(points), tuple(ties))


class TestIsNet(Checks):
    def test_nets(self):
        two = ((0, 3), (1, 2))
        for net in [
            (0, (), ()), (8, (), ()), (0, ((0, 0),), ()), (8, ((0, 8),) * 7, ()), TRIP, FULL,
            (3, two, ((0, 1, 1, 2),)), (3, two, ((0, 1, 1, 1), (0, 1, 1, 2), (0, 1, 1, 1))), (3, ((3, 3), (0, 0)), ()),
        ]:
            self.tells(True, is_net, net)

    def test_each_limit_broken_by_one(self):
        two = ((0, 3), (1, 2))
        for net in [
            (-1, (), ()), (9, (), ()), (8, ((0, 8),) * 8, ()), (8, ((0, 8),) * 2, ((0, 1, 0, 8),) * 10),
            (3, ((-1, 3),), ()), (3, ((0, 4),), ()), (3, ((3, 2),), ()), (3, ((4, 4),), ()),
            (3, two, ((0, 1, 0, 2),)), (3, two, ((0, 1, 1, 3),)), (3, two, ((0, 1, 2, 1),)), (3, two, ((0, 1, 0, 0),)),
            (3, two, ((0, 2, 1, 2),)), (3, two, ((-1, 1, 1, 2),)), (3, two, ((1, 1, 1, 2),)), (3, two, ((1, 0, 1, 2),)),
            (3, (), ((0, 1, 0, 0),)), (3, ((0, 1), (2, 3)), ((0, 1, 1, 2),)), (3, ((0, 1), (2, 3)), ((0, 1, 1, 1),)),
        ]:
            self.tells(False, is_net, net)

    def test_the_ends_of_lives_bound_ties(self):
        for born, gone in itertools.combinations_with_replacement(range(4), 2):
            for first in range(-1, 5):
                for end in range(-1, 5):
                    right = born <= first <= end <= gone
                    self.tells(right, is_net, (3, ((born, 3), (0, gone)), ((0, 1, first, end),)))
                    self.tells(right, is_net, (3, ((0, gone), (born, 3)), ((0, 1, first, end),)))

    def test_kinds_are_strict(self):
        for net in [
            [3, (), ()], (3, [], ()), (3, (), []), (True, (), ()), (False, (), ()), ("3", (), ()), (None, (), ()),
            (3, ([0, 3],), ()), (3, ((False, 3),), ()), (3, ((0, True),), ()), (3, ((0, None),), ()), (3, ("03",), ()),
            (3, ((0,),), ()), (3, ((0, 1, 2),), ()), (3, (), (), ()), (3, ()), (), (3, {}, ()), (3, (), {}),
            (3, ((0, 3), (0, 3)), ([0, 1, 0, 1],)), (3, ((0, 3), (0, 3)), ((False, 1, 0, 1),)),
            (3, ((0, 3), (0, 3)), ((0, True, 0, 1),)), (3, ((0, 3), (0, 3)), ((0, 1, False, 1),)),
            (3, ((0, 3), (0, 3)), ((0, 1, 0, True),)), (3, ((0, 3), (0, 3)), ((0, 1, 0),)),
            (3, ((0, 3), (0, 3)), ((0, 1, 0, 1, 1),)), (3, ((0, 3), (0, 3)), (((0,), (1,), 0, 1),)),
            (10 ** 50, (), ()), (3, ((0, 10 ** 50),), ()), (3, ((-10 ** 50, 3),), ()), nested(tuple, 200),
            (3, nested(tuple, 100), ()), (3, (), nested(tuple, 100)), (nested(dict, 100), (), ()),
        ]:
            self.tells(False, is_net, net)

    def test_no_odd_value_is_a_net(self):
        for odd in odd_values():
            self.tells(False, is_net, odd)

    def test_others_raise_bad_net(self):
        for odd in odd_values():
            for call in (days_of, turned_net, is_growing):
                self.raises(BadNet, odd, call, odd)
            for call in (points_on, ties_on, renumbered_net):
                self.raises(BadNet, odd, call, odd, None)
            self.raises(BadNet, odd, cut_days, odd, None, None)


class TestDays(Checks):
    def test_days_of(self):
        for last in range(9):
            self.assertEqual(days_of((last, (), ())), last + 1)

    def test_what_is_there(self):
        rng = random.Random(1)
        for _ in range(200):
            net = random_net(rng)
            for day in range(net[0] + 1):
                points = [k for k in range(len(net[1])) if day in range(net[1][k][0], net[1][k][1] + 1)]
                ties = [k for k in range(len(net[2])) if day in range(net[2][k][2], net[2][k][3] + 1)]
                self.assertEqual(points_on(net, day), points)
                self.assertEqual(ties_on(net, day), ties)

    def test_days_at_both_ends_and_beyond(self):
        for call in (points_on, ties_on):
            for net in (TRIP, FULL, (0, (), ())):
                call(net, 0)
                call(net, net[0])
                for day in (-1, net[0] + 1, True, False, None, "0", 10 ** 40, -10 ** 40, [0], (0,)):
                    self.raises(BadDay, day, call, net, day)

    def test_is_growing(self):
        self.tells(True, is_growing, (3, (), ()))
        self.tells(True, is_growing, (3, ((0, 3), (3, 3)), ((0, 1, 3, 3),)))
        self.tells(False, is_growing, (3, ((0, 3), (3, 3), (0, 2)), ()))
        self.tells(False, is_growing, (3, ((0, 3), (0, 3)), ((0, 1, 3, 3), (0, 1, 0, 2))))
        self.tells(True, is_growing, FULL)
        self.tells(False, is_growing, TRIP)


class TestCutDays(Checks):
    def test_a_life_is_cut_to_the_days(self):
        net = (8, ((0, 2), (2, 6), (4, 4), (5, 8), (7, 8)), ((0, 1, 2, 2), (1, 2, 4, 4), (1, 3, 5, 6), (3, 4, 7, 8)))
        self.assertEqual(cut_days(net, 3, 5), ((2, ((0, 2), (1, 1), (2, 2)), ((0, 1, 1, 1), (0, 2, 2, 2))), (1, 2, 3), (1, 2)))
        self.assertEqual(cut_days(net, 0, 8), (net, (0, 1, 2, 3, 4), (0, 1, 2, 3)))
        self.assertEqual(cut_days(net, 2, 2), ((0, ((0, 0), (0, 0)), ((0, 1, 0, 0),)), (0, 1), (0,)))
        self.assertEqual(cut_days((8, (), ()), 4, 4), ((0, (), ()), (), ()))

    def test_what_is_there_day_by_day(self):
        rng = random.Random(2)
        for _ in range(200):
            net = random_net(rng)
            first = rng.randrange(net[0] + 1)
            last = rng.randrange(first, net[0] + 1)
            cut, points, ties = cut_days(net, first, last)
            self.assertTrue(is_net(cut))
            self.assertEqual(cut[0], last - first)
            self.assertEqual(list(points), sorted(set().union(*[points_on(net, d) for d in range(first, last + 1)])))
            self.assertEqual(list(ties), sorted(set().union(*[ties_on(net, d) for d in range(first, last + 1)])))
            for new, old in enumerate(ties):
                ends = tuple(points[point] for point in cut[2][new][:2])
                self.assertEqual(ends, net[2][old][:2])
            for day in range(last - first + 1):
                self.assertEqual([points[k] for k in points_on(cut, day)], points_on(net, first + day))
                self.assertEqual([ties[k] for k in ties_on(cut, day)], ties_on(net, first + day))

    def test_cut_again(self):
        rng = random.Random(3)
        for _ in range(100):
            net = random_net(rng, 8)
            cut, points, ties = cut_days(net, 2, 7)
            again, fewer_points, fewer_ties = cut_days(cut, 1, 3)
            whole = cut_days(net, 3, 5)
            self.assertEqual(again, whole[0])
            self.assertEqual(tuple(points[k] for k in fewer_points), whole[1])
            self.assertEqual(tuple(ties[k] for k in fewer_ties), whole[2])

    def test_no_days(self):
        for first, last in [
            (-1, 0), (0, 4), (2, 1), (4, 4), (True, 2), (0, True), (None, 2), (0, None), ("0", 2), ([], []),
            (10 ** 40, 10 ** 40), ((0,), 1), (-1, -1),
        ]:
            self.raises_tuple(BadDays, (first, last), cut_days, TRIP, first, last)
        for first, last in itertools.product(range(-2, 7), repeat=2):
            if 0 <= first <= last <= 3:
                self.assertEqual(cut_days(TRIP, first, last)[0][0], last - first)
            else:
                self.raises_tuple(BadDays, (first, last), cut_days, TRIP, first, last)


class TestTurnedAndRenumbered(Checks):
    def test_turned(self):
        net = (5, ((0, 1), (0, 5), (2, 4)), ((0, 1, 1, 1), (1, 2, 2, 3)))
        self.assertEqual(turned_net(net), (5, ((4, 5), (0, 5), (1, 3)), ((0, 1, 4, 4), (1, 2, 2, 3))))

    def test_turned_day_by_day_and_twice(self):
        rng = random.Random(4)
        for _ in range(100):
            net = random_net(rng)
            turned = turned_net(net)
            self.assertTrue(is_net(turned))
            for day in range(net[0] + 1):
                self.assertEqual(points_on(turned, day), points_on(net, net[0] - day))
                self.assertEqual(ties_on(turned, day), ties_on(net, net[0] - day))
            self.assertEqual(turned_net(turned), net)

    def test_renumbered_and_led_back(self):
        rng = random.Random(5)
        for _ in range(200):
            net = random_net(rng)
            order = list(range(len(net[1])))
            rng.shuffle(order)
            renumbered = renumbered_net(net, tuple(order))
            self.assertTrue(is_net(renumbered))
            for new, old in enumerate(order):
                self.assertEqual(renumbered[1][new], net[1][old])
            for new, old in zip(renumbered[2], net[2]):
                self.assertEqual(sorted([order[new[0]], order[new[1]]]), [old[0], old[1]])
                self.assertLess(new[0], new[1])
                self.assertEqual(new[2:], old[2:])
            back = tuple(order.index(k) for k in range(len(order)))
            self.assertEqual(renumbered_net(renumbered, back), net)

    def test_orders_at_the_limits(self):
        self.assertEqual(renumbered_net((2, (), ()), ()), (2, (), ()))
        self.assertEqual(renumbered_net(FULL, (0, 1, 2, 3, 4, 5, 6)), FULL)
        for order in [
            [0, 1, 2], (0, 1), (0, 1, 2, 3), (0, 0, 2), (1, 2, 3), (-1, 0, 1), (0, 1, True), (False, 1, 2), None, "012",
            ((0,), 1, 2), (0, 1, None), (0, 1, []), {0: 1}, 10 ** 40, (0, 1, 10 ** 40), (), (0, 1, "2"),
        ]:
            self.raises(BadOrder, order, renumbered_net, TRIP, order)
        for odd in odd_values():
            if odd != ():
                self.raises(BadOrder, odd, renumbered_net, (2, (), ()), odd)


if __name__ == "__main__":
    unittest.main()
