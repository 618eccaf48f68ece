"""[21], stage 26: nets that grow, the names of their groups, and how far they are shifted."""

import random
import unittest

from staybars.errors import BadDay, BadKind, BadNet, BadPair, BadPoint, BadPrime, BadShift, NotGrowing
from staybars.flags import heap_of_line
from staybars.grown import days_line, elder_names, name_on, shift_of, tables_of_nets
from staybars.lines import is_line
from staybars.nets import is_growing, is_net
from staybars.thereback import is_there_and_back
from tests.forths import counted, there_and_back_by_words
from tests.helpers import Checks, odd_values
from tests.rooms import PRIMES, base_of_set
from tests.test_netlines import ring_rows_by_points
from tests.test_plain import walked_groups

GROW = (2, ((0, 2), (0, 2), (1, 2)), ((0, 1, 1, 2), (1, 2, 2, 2)))
LATE = (2, ((0, 2), (1, 2), (1, 2)), ((0, 1, 2, 2), (1, 2, 2, 2)))
# Points born on one day, and three groups that become one on one day.
AT_ONCE = (3, ((1, 3), (0, 3), (1, 3), (0, 3), (2, 3)), ((0, 1, 2, 3), (0, 3, 2, 3), (2, 4, 3, 3)))


def growing_net(rng, most_points=7, most_ties=9, last=None):
    """A net that grows; often several points are born, and several ties come, on one day."""
    last = rng.randrange(9) if last is None else last
    days = [rng.randrange(last + 1) for _ in range(3)]
    points = tuple((rng.choice(days + [rng.randrange(last + 1)]), last) for _ in range(rng.randrange(most_points + 1)))
    ties = []
    for _ in range(rng.randrange(most_ties + 1) if len(points) > 1 else 0):
        one, other = sorted(rng.sample(range(len(points)), 2))
        low = max(points[one][0], points[other][0])
        ties.append((one, other, max(low, rng.choice(days + [rng.randrange(last + 1)])), last))
    return last, points, tuple(ties)


def shifted_net(rng, net, e):
    """A net with the same points and ties, each first day moved by at most e."""
    last, points, ties = net

    def moved(first, low):
        return max(low, min(last, first + rng.randrange(-e, e + 1)))
    new_points = tuple((moved(first, 0), last) for first, _ in points)
    new_ties = tuple(
        (one, other, moved(first, max(new_points[one][0], new_points[other][0])), last) for one, other, first, _ in ties
    )
    return last, new_points, new_ties


def nets_that_grow(seed, often, most_points=7, most_ties=9):
    rng = random.Random(seed)
    for net in ((0, (), ()), (8, (), ()), (0, ((0, 0),) * 3, ((0, 1, 0, 0),)), GROW, LATE, AT_ONCE):
        yield rng, net
    for _ in range(often):
        yield rng, growing_net(rng, most_points, most_ties)


def there_on_day(net, day):
    points = [k for k, (first, _) in enumerate(net[1]) if first <= day]
    return points, [k for k, tie in enumerate(net[2]) if tie[2] <= day]


def walked_on_day(net, day):
    """The groups of a day, found by walking from point to point."""
    points, ties = there_on_day(net, day)
    return walked_groups(points, [net[2][tie][:2] for tie in ties])


def name_by_words(net, group):
    """Of the points of a group whose lives begin first that with the least number."""
    first = min(net[1][point][0] for point in group)
    return [point for point in sorted(group) if net[1][point][0] == first][0]


def names_by_words(net):
    """All names with the days on which they are borne."""
    days = {}
    for day in range(net[0] + 1):
        for group in walked_on_day(net, day):
            days.setdefault(name_by_words(net, group), []).append(day)
    return days


def entry_of(base, row):
    """The numbers that a ring row has at the first ties of a base's rows."""
    return tuple(row[[k for k in range(len(held)) if held[k]][0]] for held in base)


def led_by_words(net, day, other, to, what, p):
    """The table of what stands in a net on a day into what stands in another on a day, by the points or the ties."""
    if what == "groups":
        here, there = walked_on_day(net, day), walked_on_day(other, to)
        return tuple(tuple(int(set(group) <= set(held)) for held in there) for group in here)
    ties, more = there_on_day(net, day)[1], there_on_day(other, to)[1]
    here = base_of_set(p, len(ties), ring_rows_by_points(net, p, ties))
    there = base_of_set(p, len(more), ring_rows_by_points(other, p, more))
    wide = [tuple(row[ties.index(tie)] if tie in ties else 0 for tie in more) for row in here]
    return tuple(entry_of(there, row) for row in wide)


class TestDaysLine(Checks):
    def test_groups(self):
        for rng, net in nets_that_grow(461, 60):
            p = rng.choice(PRIMES)
            line = days_line(net, "groups", p)
            self.tells(True, is_line, line)
            self.assertEqual([line[0], line[1]], [p, tuple(len(walked_on_day(net, day)) for day in range(net[0] + 1))])
            for day, (sign, table) in enumerate(line[2]):
                self.assertEqual([sign, table], [">", led_by_words(net, day, net, day + 1, "groups", p)])

    def test_rings(self):
        for rng, net in nets_that_grow(462, 60, 4, 6):
            p = rng.choice((2, 3))
            line = days_line(net, "rings", p)
            self.tells(True, is_line, line)
            for day in range(net[0] + 1):
                points, ties = there_on_day(net, day)
                self.assertEqual(line[1][day], len(ties) - len(points) + len(walked_on_day(net, day)))
            for day, (sign, table) in enumerate(line[2]):
                self.assertEqual([sign, table], [">", led_by_words(net, day, net, day + 1, "rings", p)])

    def test_rings_stay(self):
        for rng, net in nets_that_grow(463, 60):
            heap = heap_of_line(days_line(net, "rings", rng.choice(PRIMES)))
            self.assertTrue(all(b == net[0] for _, b, _ in heap))

    def test_known_ones(self):
        self.assertEqual(days_line(GROW, "groups", 2), (2, (2, 2, 1), ((">", ((1, 0), (1, 0))), (">", ((1,), (1,))))))
        self.assertEqual(days_line(GROW, "rings", 7), (7, (0, 0, 0), ((">", ()), (">", ()))))
        twice = (2, ((0, 2), (0, 2)), ((0, 1, 0, 2), (0, 1, 1, 2), (0, 1, 1, 2)))
        self.assertEqual(days_line(twice, "rings", 5), (5, (0, 2, 2), ((">", ()), (">", ((1, 0), (0, 1))))))
        self.assertEqual([days_line((0, (), ()), what, 3) for what in ("groups", "rings")], [(3, (0,), ())] * 2)


class TestNames(Checks):
    def test_by_walking(self):
        for _, net in nets_that_grow(464, 150):
            for day in range(net[0] + 1):
                groups = walked_on_day(net, day)
                for point, (first, _) in enumerate(net[1]):
                    wanted = [name_by_words(net, group) for group in groups if point in group]
                    self.assertEqual(name_on(net, day, point), wanted[0] if day >= first else None)

    def test_all_names_and_the_bars_of_the_line_of_days(self):
        left_out = 0
        for rng, net in nets_that_grow(465, 150):
            days = names_by_words(net)
            for held in days.values():
                self.assertEqual(held, list(range(held[0], held[-1] + 1)))
            told = elder_names(net)
            self.assertEqual(told, [(name, days[name][0], days[name][-1]) for name in sorted(days)])
            self.assertEqual(counted([named[1:] for named in told]), heap_of_line(days_line(net, "groups", rng.choice(PRIMES))))
            left_out += len(net[1]) - len(told)
            for name, first, end in told:
                self.assertEqual(first, net[1][name][0])
                self.assertEqual([name_on(net, day, name) == name for day in range(first, net[0] + 1)], [day <= end for day in range(first, net[0] + 1)])
        self.assertGreater(left_out, 20)

    def test_known_ones(self):
        self.assertEqual(elder_names(GROW), [(0, 0, 2), (1, 0, 0), (2, 1, 1)])
        self.assertEqual([name_on(GROW, 0, 2), name_on(GROW, 1, 1), name_on(GROW, 2, 2)], [None, 0, 0])
        self.assertEqual(elder_names(AT_ONCE), [(0, 1, 1), (1, 0, 3), (2, 1, 3), (3, 0, 1), (4, 2, 2)])
        self.assertEqual([name_on(AT_ONCE, day, 0) for day in range(4)], [None, 0, 1, 1])
        # The elder name stays, though its number is greater; of points of one day the least number does.
        self.assertEqual(elder_names((1, ((1, 1), (0, 1)), ((0, 1, 1, 1),))), [(1, 0, 1)])
        self.assertEqual(elder_names((1, ((0, 1), (0, 1)), ((0, 1, 0, 1),))), [(0, 0, 1)])
        self.assertEqual([elder_names((0, (), ())), elder_names((3, ((3, 3),), ()))], [[], [(0, 3, 3)]])


class TestShifts(Checks):
    def test_the_least_by_looking_at_all_first_days(self):
        seen = set()
        for rng, net in nets_that_grow(466, 150):
            other = shifted_net(rng, net, rng.randrange(4))
            apart = [abs(one[0] - two[0]) for one, two in zip(net[1], other[1])] + [abs(one[2] - two[2]) for one, two in zip(net[2], other[2])]
            wanted = max(apart) if apart else 0
            seen.add(wanted)
            self.assertEqual([shift_of(net, other), shift_of(other, net)], [wanted, wanted])
            self.assertEqual(shift_of(net, net), 0)
        self.assertGreater(len(seen), 3)

    def test_known_ones(self):
        self.assertEqual([shift_of(GROW, LATE), shift_of((0, (), ()), (0, (), ()))], [1, 0])
        # The points alone, or the ties alone, may be the furthest apart.
        self.assertEqual(shift_of((8, ((0, 8), (1, 8)), ((0, 1, 8, 8),)), (8, ((8, 8), (0, 8)), ((0, 1, 8, 8),))), 8)
        self.assertEqual(shift_of((8, ((0, 8), (1, 8)), ((0, 1, 1, 8),)), (8, ((0, 8), (1, 8)), ((0, 1, 6, 8),))), 5)

    def test_no_pairs(self):
        for net, other in [
            (GROW, (3, ((0, 3), (0, 3), (1, 3)), ((0, 1, 1, 3), (1, 2, 2, 3)))), (GROW, (2, GROW[1] + ((0, 2),), GROW[2])), (GROW, (2, GROW[1], GROW[2][:1])),
            (GROW, (2, GROW[1], GROW[2][::-1])), (GROW, (2, GROW[1], ((0, 2, 1, 2), (1, 2, 2, 2)))), (GROW, (2, (), ())), ((0, (), ()), (1, (), ())),
        ]:
            for one, two in ((net, other), (other, net)):
                self.raises_tuple(BadPair, (one, two), shift_of, one, two)
                self.raises_tuple(BadPair, (one, two), tables_of_nets, one, two, None, None, None)


class TestTables(Checks):
    def test_by_the_words_and_there_and_back(self):
        wide = 0
        for rng, net in nets_that_grow(467, 60, 4, 6):
            other = shifted_net(rng, net, rng.randrange(3))
            least = shift_of(net, other)
            for what in ("groups", "rings"):
                p = rng.choice((2, 3))
                lines = days_line(net, what, p), days_line(other, what, p)
                for e in sorted({least, least + 1, net[0] + 1, 20}):
                    told = tables_of_nets(net, other, e, what, p)
                    for side, (one, two) in enumerate(((net, other), (other, net))):
                        wanted = tuple(led_by_words(one, day, two, min(day + e, net[0]), what, p) for day in range(net[0] + 1))
                        self.assertEqual(told[side], wanted)
                        wide += sum(map(len, wanted))
                    self.assertIs(type(told), tuple)
                    self.assertTrue(there_and_back_by_words(*lines, e, told))
                    self.tells(True, is_there_and_back, *lines, e, told)
        self.assertGreater(wide, 500)

    def test_over_each_prime(self):
        for rng, net in nets_that_grow(468, 40):
            other = shifted_net(rng, net, 2)
            e = shift_of(net, other)
            for p in PRIMES:
                for what in ("groups", "rings"):
                    value = tables_of_nets(net, other, e, what, p)
                    self.tells(True, is_there_and_back, days_line(net, what, p), days_line(other, what, p), e, value)

    def test_known_ones(self):
        told = tables_of_nets(GROW, LATE, 1, "groups", 2)
        self.assertEqual(told, ((((1, 0, 0), (0, 1, 0)), ((1,), (1,)), ((1,),)), (((1, 0),), ((1,), (1,), (1,)), ((1,),))))
        self.assertEqual(tables_of_nets((0, (), ()), (0, (), ()), 0, "rings", 7), (((),), ((),)))

    def test_shifts_from_the_least_to_20(self):
        for e in (None, True, False, 0, -1, 21, 10 ** 40, "1", (1,), [1], {}):
            self.raises(BadShift, e, tables_of_nets, GROW, LATE, e, None, None)
        self.assertEqual(len(tables_of_nets(GROW, LATE, 20, "groups", 2)[0]), 3)
        self.raises(BadShift, 7, tables_of_nets, (8, ((0, 8),), ()), (8, ((8, 8),), ()), 7, "groups", 2)
        self.assertEqual(tables_of_nets((8, ((0, 8),), ()), (8, ((8, 8),), ()), 8, "groups", 2), ((((1,),),) * 9, ((),) * 8 + (((1,),),)))


class TestErrors(Checks):
    def test_no_nets_and_none_that_grows(self):
        ended, cut = (2, ((0, 1),), ()), (2, ((0, 2), (0, 2)), ((0, 1, 0, 1),))
        self.assertEqual([is_growing(ended), is_growing(cut)], [False, False])
        for odd in odd_values():
            if not is_net(odd):
                for call in (lambda net: days_line(net, None, None), lambda net: name_on(net, None, None), elder_names):
                    self.raises(BadNet, odd, call, odd)
                for call in (shift_of, lambda net, other: tables_of_nets(net, other, None, None, None)):
                    self.raises(BadNet, odd, call, odd, None)
                    self.raises(BadNet, odd, call, ended, odd)
        for net, other in ((ended, cut), (cut, ended)):
            for call in (lambda net: days_line(net, None, None), lambda net: name_on(net, None, None), elder_names):
                self.raises(NotGrowing, net, call, net)
            for call in (shift_of, lambda net, other: tables_of_nets(net, other, None, None, None)):
                self.raises(NotGrowing, net, call, net, other)
                self.raises(NotGrowing, other, call, GROW, other)

    def test_the_others(self):
        for what in (None, True, "", "group", "unions", ["groups"], ("rings",), {}):
            self.raises(BadKind, what, days_line, GROW, what, None)
            self.raises(BadKind, what, tables_of_nets, GROW, LATE, 1, what, None)
        for p in (None, True, 4, 1, 11, "2", [2]):
            self.raises(BadPrime, p, days_line, GROW, "rings", p)
            self.raises(BadPrime, p, tables_of_nets, GROW, LATE, 1, "rings", p)
        for day in (None, True, False, -1, 3, "0", [0]):
            self.raises(BadDay, day, name_on, GROW, day, None)
        for point in (None, True, False, -1, 3, "0", [0]):
            self.raises(BadPoint, point, name_on, GROW, 2, point)
        self.raises(BadPoint, 0, name_on, (1, (), ()), 0, 0)


if __name__ == "__main__":
    unittest.main()
