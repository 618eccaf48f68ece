"""[20], stage 25: the heaps of a net's lines, by unions and by meets, and how they tell one another."""

import random
import unittest

from staybars.bars import is_heap
from staybars.errors import BadHeap, BadNet, BadNumber, BadWay
from staybars.flags import heap_of_line
from staybars.netlines import groups_line, rings_line
from staybars.nets import is_net
from staybars.plain import groups_on, groups_over
from staybars.tides import net_heaps, plain_ends, turned_over
from tests.drawn import heap_by_ranks
from tests.forths import bars, counted
from tests.helpers import Checks, odd_values
from tests.rooms import PRIMES, random_heap
from tests.test_netlines import NO_WAYS, WAYS, nets_drawn
from tests.test_nets import TRIP

OTHER = {"unions": "meets", "meets": "unions"}


def turned_by_words(way, days, groups_heap, rings_heap):
    """The two heaps by the other way, told bar by bar as in [20]."""
    last = 2 * days - 2
    found = {"groups": [], "rings": []}
    for kind, heap in (("groups", groups_heap), ("rings", rings_heap)):
        for a, b in bars(heap):
            if a == b and a % 2 == 1:
                found["rings" if kind == "groups" else "groups"].append((a, b))
                continue
            if b % 2 == 1:
                end = b - 1
            else:
                end = b if b == last else b + 1
            if a % 2 == 1:
                begin = a + 1
            else:
                begin = a if a == 0 else a - 1
            found[kind].append((begin, end))
    return counted(found["groups"]), counted(found["rings"])


def without_odd(heap):
    """The heap without bars (k, k) at an odd place."""
    return tuple(pile for pile in heap if pile[0] != pile[1] or pile[0] % 2 == 0)


class TestHeaps(Checks):
    def test_of_both_lines_over_each_prime(self):
        for _, net in nets_drawn(451, 30):
            for way in WAYS:
                told = net_heaps(net, way)
                self.assertIs(type(told), tuple)
                for p in PRIMES:
                    self.assertEqual(told, (heap_of_line(groups_line(net, way, p)), heap_of_line(rings_line(net, way, p))))

    def test_by_ranks_counted(self):
        looked = 0
        for _, net in nets_drawn(452, 120, 3, 4):
            if net[0] <= 3:
                for way in WAYS:
                    lines = groups_line(net, way, 2), rings_line(net, way, 2)
                    if max(lines[0][1] + lines[1][1]) <= 3:
                        looked += 1
                        self.assertEqual(net_heaps(net, way), tuple(heap_by_ranks(line) for line in lines))
        self.assertGreater(looked, 40)

    def test_known_ones(self):
        self.assertEqual(net_heaps(TRIP, "unions"), (((0, 6, 1), (6, 6, 1)), ((1, 3, 1),)))
        self.assertEqual(net_heaps(TRIP, "meets"), (((0, 6, 1), (5, 6, 1)), ((2, 2, 1),)))
        self.assertEqual([net_heaps((0, (), ()), way) for way in WAYS], [((), ())] * 2)
        # A tie for another one over night: a ring of both, by unions alone; by meets two groups between.
        change = (1, ((0, 1), (0, 1)), ((0, 1, 0, 0), (0, 1, 1, 1)))
        self.assertEqual(net_heaps(change, "unions"), (((0, 2, 1),), ((1, 1, 1),)))
        self.assertEqual(net_heaps(change, "meets"), (((0, 2, 1), (1, 1, 1)), ()))
        # One point alone, on one day in the midst.
        alone = (4, ((2, 2),), ())
        self.assertEqual([net_heaps(alone, way) for way in WAYS], [(((3, 5, 1),), ()), (((4, 4, 1),), ())])

    def test_no_bar_on_an_odd_place_alone(self):
        seen = {"groups": 0, "rings": 0}
        for _, net in nets_drawn(453, 150):
            (groups, rings), (met_groups, met_rings) = net_heaps(net, "unions"), net_heaps(net, "meets")
            self.assertEqual([without_odd(groups), without_odd(met_rings)], [groups, met_rings])
            seen["rings"] += without_odd(rings) != rings
            seen["groups"] += without_odd(met_groups) != met_groups
        self.assertGreater(min(seen.values()), 5)

    def test_errors(self):
        for odd in odd_values():
            if not is_net(odd):
                self.raises(BadNet, odd, net_heaps, odd, None)
                self.raises(BadNet, odd, plain_ends, odd)
        for way in NO_WAYS:
            self.raises(BadWay, way, net_heaps, TRIP, way)


class TestTurnedOver(Checks):
    def test_heaps_of_nets_and_back(self):
        for _, net in nets_drawn(454, 200):
            heaps = {way: net_heaps(net, way) for way in WAYS}
            for way in WAYS:
                told = turned_over(way, net[0] + 1, *heaps[way])
                self.assertEqual(told, heaps[OTHER[way]])
                self.assertEqual(turned_over(OTHER[way], net[0] + 1, *told), heaps[way])

    def test_heaps_of_no_net(self):
        rng = random.Random(455)
        above = 0
        for number in range(300):
            days = 1 + number % 9
            groups, rings = random_heap(rng, 2 * days - 1), random_heap(rng, 2 * days - 1)
            for way in WAYS:
                pair = (without_odd(groups), rings) if way == "unions" else (groups, without_odd(rings))
                told = turned_over(way, days, *pair)
                self.assertEqual(told, turned_by_words(way, days, *pair))
                high = any(not is_heap(2 * days - 1, heap) for heap in told)
                above += high
                if not high:
                    self.assertEqual(turned_over(OTHER[way], days, *told), pair)
        self.assertGreater(above, 20)

    def test_each_bar_alone(self):
        for days in range(1, 6):
            places = 2 * days - 1
            for a in range(places):
                for b in range(a, places):
                    heap = ((a, b, 3),)
                    for way in WAYS:
                        odd = a == b and a % 2 == 1
                        if not (odd and way == "unions"):
                            self.assertEqual(turned_over(way, days, heap, ()), turned_by_words(way, days, heap, ()))
                        if not (odd and way == "meets"):
                            self.assertEqual(turned_over(way, days, (), heap), turned_by_words(way, days, (), heap))

    def test_known_ones(self):
        self.assertEqual(turned_over("unions", 4, ((0, 6, 1), (6, 6, 1)), ((1, 1, 2), (1, 3, 1))), (((0, 6, 1), (1, 1, 2), (5, 6, 1)), ((2, 2, 1),)))
        self.assertEqual(turned_over("unions", 1, ((0, 0, 8),), ((0, 0, 3),)), (((0, 0, 8),), ((0, 0, 3),)))
        self.assertEqual(turned_over("meets", 2, ((0, 0, 1), (1, 1, 2), (2, 2, 1)), ()), (((0, 1, 1), (1, 2, 1)), ((1, 1, 2),)))
        self.assertEqual(turned_over("unions", 2, ((0, 1, 1), (1, 2, 1)), ((1, 1, 2),)), (((0, 0, 1), (1, 1, 2), (2, 2, 1)), ()))

    def test_a_place_covered_more_than_8_times_behind_it(self):
        one = ((1, 2, 8), (3, 3, 8))
        self.assertEqual(turned_over("meets", 3, one, ()), (((2, 3, 8),), ((3, 3, 8),)))
        one = ((0, 0, 8), (1, 1, 8), (2, 2, 8))
        self.assertEqual(turned_over("meets", 2, one, ((0, 0, 8), (2, 2, 8))), (((0, 1, 8), (1, 2, 8)), ((0, 1, 8), (1, 1, 8), (1, 2, 8))))

    def test_errors(self):
        for way in NO_WAYS:
            self.raises(BadWay, way, turned_over, way, None, None, None)
        for days in (None, True, 0, 10, -1, 10 ** 40, "3", (3,), [3]):
            self.raises(BadNumber, days, turned_over, "unions", days, None, None)
        for odd in odd_values() + [((0, 3, 1),), ((0, 2, 9),), [(0, 2, 1)], ((1, 2, 1), (0, 2, 1)), ((0, 2, True),), ((0, 2, 8), (1, 2, 1))]:
            if odd not in ((), ((0, 0, 1),)):
                for way in WAYS:
                    self.raises(BadHeap, odd, turned_over, way, 2, odd, None)
                    self.raises(BadHeap, odd, turned_over, way, 2, (), odd)

    def test_a_bar_on_an_odd_place_alone_where_there_can_be_none(self):
        for heap in (((1, 1, 1),), ((0, 1, 1), (1, 1, 2)), ((0, 2, 1), (3, 3, 1), (4, 4, 1))):
            self.raises(BadHeap, heap, turned_over, "unions", 3, heap, None)
            self.raises(BadHeap, heap, turned_over, "unions", 3, heap, heap)
            self.raises(BadHeap, heap, turned_over, "meets", 3, heap, heap)
            self.assertEqual(turned_over("unions", 3, (), heap), turned_by_words("unions", 3, (), heap))
            self.assertEqual(turned_over("meets", 3, heap, ()), turned_by_words("meets", 3, heap, ()))


class TestPlainEnds(Checks):
    def test_by_the_bars_of_groups(self):
        seen = set()
        for _, net in nets_drawn(456, 150):
            heap = net_heaps(net, "unions")[0]
            told = plain_ends(net)
            self.assertIs(type(told), list)
            self.assertEqual(len(told), net[0])
            for day, numbers in enumerate(told):
                ends = [sum(often for _, b, often in heap if b == place) for place in (2 * day, 2 * day + 1)]
                begins = [sum(often for a, _, often in heap if a == place) for place in (2 * day + 1, 2 * day + 2)]
                self.assertEqual(numbers, (ends[0], begins[0], ends[1], begins[1]))
                seen.update(enumerate(number > 1 for number in numbers))
        self.assertEqual(len(seen), 8)

    def test_by_the_words(self):
        for _, net in nets_drawn(457, 60):
            for day, told in enumerate(plain_ends(net)):
                now, over, then = groups_on(net, day), groups_over(net, day), groups_on(net, day + 1)
                here = [group for group in over if any(set(held) <= set(group) for held in now)]
                there = [group for group in over if any(set(held) <= set(group) for held in then)]
                self.assertEqual(told, (len(now) - len(here), len(over) - len(here), len(over) - len(there), len(then) - len(there)))

    def test_known_ones(self):
        self.assertEqual(plain_ends(TRIP), [(0, 0, 0, 0), (0, 0, 0, 0), (0, 0, 0, 1)])
        self.assertEqual([plain_ends((0, (), ())), plain_ends((2, (), ()))], [[], [(0, 0, 0, 0)] * 2])
        self.assertEqual(plain_ends((1, ((0, 0), (1, 1), (0, 0)), ())), [(0, 1, 2, 0)])
        self.assertEqual(plain_ends((1, ((0, 1), (0, 1), (0, 1)), ((0, 1, 1, 1), (1, 2, 1, 1)))), [(2, 0, 0, 0)])


if __name__ == "__main__":
    unittest.main()
