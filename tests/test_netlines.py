"""[20], stage 24: the lines of groups and of rings of a net, by unions and by meets."""

import itertools
import random
import unittest

from staybars.errors import BadNet, BadPlace, BadPrime, BadWay
from staybars.lines import is_line
from staybars.netlines import groups_line, ring_base, rings_line
from staybars.nets import is_net
from staybars.plain import groups_both, groups_on, groups_over, rings_both, rings_on, rings_over
from tests.helpers import Checks, odd_values
from tests.rooms import PRIMES, all_entries, base_of_set, lead
from tests.test_nets import FULL, TRIP, random_net
from tests.test_plain import walked_groups

WAYS = ("unions", "meets")
NO_WAYS = [None, True, 0, "", "union", "Unions", "groups", ["unions"], ("meets",), {}, 10 ** 40]


def net_of(rng, most_points=7, most_ties=9, last=None):
    """A net with ties on several days, more than one of the same points among them."""
    while True:
        last_day = rng.randrange(9) if last is None else last
        points = []
        for _ in range(rng.randrange(most_points + 1)):
            first = rng.randrange(last_day + 1) if rng.randrange(3) else 0
            points.append((first, rng.randrange(first, last_day + 1) if rng.randrange(3) else last_day))
        ties = []
        for _ in range(3 * most_ties):
            if len(points) > 1 and len(ties) < most_ties:
                one, other = sorted(rng.sample(range(len(points)), 2))
                low, high = max(points[one][0], points[other][0]), min(points[one][1], points[other][1])
                if low <= high:
                    first = rng.randrange(low, high + 1)
                    ties.append((one, other, first, rng.randrange(first, high + 1)))
        net = (last_day, tuple(points), tuple(ties))
        assert is_net(net)
        if ties or not rng.randrange(3):
            return net


def nets_drawn(seed, often, most_points=7, most_ties=9):
    rng = random.Random(seed)
    yield rng, (0, (), ())
    yield rng, (8, (), ())
    yield rng, (3, ((0, 3), (1, 1)), ())
    yield rng, (4, ((0, 4), (0, 4)), ((0, 1, 0, 3), (0, 1, 1, 4), (0, 1, 2, 2), (0, 1, 0, 4)))
    yield rng, (8, ((0, 8), (0, 8)), ((0, 1, 0, 8),) * 9)
    yield rng, TRIP
    yield rng, FULL
    for _ in range(often):
        yield rng, net_of(rng, most_points, most_ties)


def there_by_days(net, way, place):
    """The numbers of the points and of the ties at a place, day by day."""
    days = [place // 2] if place % 2 == 0 else [place // 2, place // 2 + 1]
    rule = any if way == "unions" else all
    points = [k for k, (first, end) in enumerate(net[1]) if rule(first <= day <= end for day in days)]
    ties = [k for k, (_, _, first, end) in enumerate(net[2]) if rule(first <= day <= end for day in days)]
    return points, ties


def signs_in_turn(net, way):
    return ((">", "<") if way == "unions" else ("<", ">")) * net[0]


def ring_rows_by_points(net, p, ties):
    """The set of all ring rows of some ties, told by numbers, looked at point by point."""
    found = set()
    for row in itertools.product(range(p), repeat=len(ties)):
        sums = [0] * len(net[1])
        for number, tie in zip(row, ties):
            sums[net[2][tie][1]] += number
            sums[net[2][tie][0]] -= number
        if not any(total % p for total in sums):
            found.add(row)
    return found


class TestGroups(Checks):
    def test_rooms_and_maps(self):
        for rng, net in nets_drawn(441, 60):
            for way in WAYS:
                p = rng.choice(PRIMES)
                line = groups_line(net, way, p)
                self.tells(True, is_line, line)
                self.assertEqual([line[0], len(line[1])], [p, 2 * net[0] + 1])
                self.assertEqual(tuple(sign for sign, _ in line[2]), signs_in_turn(net, way))
                groups = []
                for place in range(2 * net[0] + 1):
                    points, ties = there_by_days(net, way, place)
                    groups.append(walked_groups(points, [net[2][tie][:2] for tie in ties]))
                self.assertEqual(line[1], tuple(len(held) for held in groups))
                for k, (sign, table) in enumerate(line[2]):
                    here, there = (groups[k], groups[k + 1]) if sign == ">" else (groups[k + 1], groups[k])
                    self.assertEqual(table, tuple(tuple(int(set(group) <= set(held)) for held in there) for group in here))

    def test_each_prime_tells_the_same_numbers(self):
        for _, net in nets_drawn(442, 20):
            for way in WAYS:
                lines = [groups_line(net, way, p) for p in PRIMES]
                self.assertEqual([line[0] for line in lines], list(PRIMES))
                self.assertEqual(len({line[1:] for line in lines}), 1)

    def test_the_widths_are_the_numbers_of_groups_and_rings(self):
        for rng, net in nets_drawn(443, 40):
            for way in WAYS:
                between = (groups_over, rings_over) if way == "unions" else (groups_both, rings_both)
                wanted = [[], []]
                for place in range(2 * net[0] + 1):
                    groups_of, rings_of = (groups_on, rings_on) if place % 2 == 0 else between
                    wanted[0].append(len(groups_of(net, place // 2)))
                    wanted[1].append(rings_of(net, place // 2))
                p = rng.choice(PRIMES)
                self.assertEqual([list(groups_line(net, way, p)[1]), list(rings_line(net, way, p)[1])], wanted)
                self.assertEqual([len(ring_base(net, way, place, p)) for place in range(2 * net[0] + 1)], wanted[1])

    def test_known_ones(self):
        net = (1, ((0, 1), (0, 1)), ((0, 1, 0, 0),))
        self.assertEqual(groups_line(net, "unions", 2), (2, (1, 1, 2), ((">", ((1,),)), ("<", ((1,), (1,))))))
        self.assertEqual(groups_line(net, "meets", 2), (2, (1, 2, 2), (("<", ((1,), (1,))), (">", ((1, 0), (0, 1))))))
        self.assertEqual([groups_line((0, (), ()), way, 7) for way in WAYS], [(7, (0,), ())] * 2)
        self.assertEqual(groups_line((1, (), ()), "unions", 3), (3, (0, 0, 0), ((">", ()), ("<", ()))))


class TestRings(Checks):
    def test_bases_of_all_ring_rows(self):
        for rng, net in nets_drawn(444, 40, 4, 5):
            if len(net[2]) < 8:
                for way, p in itertools.product(WAYS, (2, 3, 5)):
                    place = rng.randrange(2 * net[0] + 1)
                    ties = there_by_days(net, way, place)[1]
                    if p ** len(ties) < 700:
                        wanted = base_of_set(p, len(ties), ring_rows_by_points(net, p, ties))
                        self.assertEqual(ring_base(net, way, place, p), wanted)

    def test_over_7(self):
        for rng, net in nets_drawn(445, 30, 3, 3):
            if len(net[2]) < 4:
                for way in WAYS:
                    for place in range(2 * net[0] + 1):
                        ties = there_by_days(net, way, place)[1]
                        self.assertEqual(ring_base(net, way, place, 7), base_of_set(7, len(ties), ring_rows_by_points(net, 7, ties)))

    def entry_of(self, base, row):
        """The numbers that a ring row has at the first ties of the base's rows."""
        return tuple(row[[k for k in range(len(held)) if held[k]][0]] for held in base)

    def test_maps_lead_a_ring_row_to_itself(self):
        led = 0
        for rng, net in nets_drawn(446, 50, 4, 6):
            if len(net[2]) < 8:
                for way in WAYS:
                    p = rng.choice((2, 3))
                    line = rings_line(net, way, p)
                    self.tells(True, is_line, line)
                    self.assertEqual([line[0], tuple(sign for sign, _ in line[2])], [p, signs_in_turn(net, way)])
                    for k, (sign, table) in enumerate(line[2]):
                        here, there = (k, k + 1) if sign == ">" else (k + 1, k)
                        ties, more = there_by_days(net, way, here)[1], there_by_days(net, way, there)[1]
                        bases = ring_base(net, way, here, p), ring_base(net, way, there, p)
                        for row in ring_rows_by_points(net, p, ties):
                            wide = tuple(row[ties.index(tie)] if tie in ties else 0 for tie in more)
                            told = lead(p, len(bases[1]), table, self.entry_of(bases[0], row))
                            self.assertEqual(told, self.entry_of(bases[1], wide))
                            led += any(row)
        self.assertGreater(led, 200)

    def test_rows_are_told_by_their_entries(self):
        net = (0, ((0, 0),) * 4, ((0, 1, 0, 0), (0, 2, 0, 0), (1, 2, 0, 0), (0, 3, 0, 0), (2, 3, 0, 0)))
        for p in (2, 3, 5):
            base = ring_base(net, "meets", 0, p)
            rows = ring_rows_by_points(net, p, range(5))
            self.assertEqual({self.entry_of(base, row) for row in rows}, set(all_entries(p, 2)))
            self.assertEqual(len(rows), p ** 2)

    def test_known_ones(self):
        self.assertEqual([ring_base(TRIP, "unions", 1, p) for p in PRIMES], [((1, p - 1, 1),) for p in PRIMES])
        self.assertEqual([ring_base(TRIP, "meets", place, 5) for place in range(7)], [(), (), ((1, 4, 1),), (), (), (), ()])
        self.assertEqual(rings_line(TRIP, "unions", 5)[1], (0, 1, 1, 1, 0, 0, 0))
        twice = (2, ((0, 2), (0, 2)), ((0, 1, 0, 1), (0, 1, 0, 2), (0, 1, 1, 2)))
        self.assertEqual([ring_base(twice, "unions", place, 3) for place in range(5)], [
            ((1, 2),), ((1, 0, 2), (0, 1, 2)), ((1, 0, 2), (0, 1, 2)), ((1, 0, 2), (0, 1, 2)), ((1, 2),),
        ])
        self.assertEqual([ring_base(twice, "meets", place, 3) for place in range(5)], [
            ((1, 2),), ((1, 2),), ((1, 0, 2), (0, 1, 2)), ((1, 2),), ((1, 2),),
        ])
        self.assertEqual(rings_line(twice, "meets", 3), (3, (1, 1, 2, 1, 1), (
            ("<", ((1,),)), (">", ((1, 2),)), ("<", ((0, 1),)), (">", ((1,),)),
        )))

    def test_9_ties_of_two_points(self):
        net = (8, ((0, 8), (0, 8)), ((0, 1, 0, 8),) * 9)
        for p, way in itertools.product(PRIMES, WAYS):
            self.assertEqual(rings_line(net, way, p)[1], (8,) * 17)
            self.assertEqual(ring_base(net, way, 16, p), tuple(tuple(int(k == j) for k in range(8)) + (p - 1,) for j in range(8)))
            self.tells(True, is_line, rings_line(net, way, p))


class TestErrors(Checks):
    def test_no_nets(self):
        for odd in odd_values():
            if not is_net(odd):
                self.raises(BadNet, odd, groups_line, odd, None, None)
                self.raises(BadNet, odd, rings_line, odd, None, None)
                self.raises(BadNet, odd, ring_base, odd, None, None, None)

    def test_no_ways(self):
        for way in NO_WAYS:
            self.raises(BadWay, way, groups_line, TRIP, way, None)
            self.raises(BadWay, way, rings_line, TRIP, way, None)
            self.raises(BadWay, way, ring_base, TRIP, way, None, None)

    def test_no_places_come_ahead_of_no_primes(self):
        for place in (None, True, False, -1, 7, 10 ** 40, "0", (0,), [0], {}):
            for way in WAYS:
                self.raises(BadPlace, place, ring_base, TRIP, way, place, None)
                self.raises(BadPlace, place, ring_base, TRIP, way, place, 5)
        self.raises(BadPlace, 1, ring_base, (0, (), ()), "meets", 1, 4)

    def test_no_primes(self):
        for p in (None, True, 0, 1, 4, 9, 11, -2, "2", (2,), [2], {}, 10 ** 40):
            self.raises(BadPrime, p, groups_line, TRIP, "unions", p)
            self.raises(BadPrime, p, rings_line, TRIP, "meets", p)
            self.raises(BadPrime, p, ring_base, TRIP, "meets", 6, p)

    def test_drawn_nets_of_the_other_tests(self):
        rng = random.Random(447)
        for _ in range(30):
            net = random_net(rng)
            self.assertEqual(len(groups_line(net, "unions", 2)[1]), 2 * net[0] + 1)


if __name__ == "__main__":
    unittest.main()
