"""[13], stage 15: what a map between two halves joins, held against all tables between small ones."""

import itertools
import random
import unittest

from staybars.bars import is_heap
from staybars.errors import BadJoining, BadLine, BadPair, BadPlace, BadSign, BadTable, TooMany
from staybars.flags import births_of, deaths_of, heap_of_line
from staybars.joints import all_joinings, heap_joined, is_joining, joining_at, line_with, map_for
from staybars.lines import cut_line, is_line
from tests.drawn import drawn, drawn_lines, heap_by_ranks, random_signs
from tests.helpers import Checks, nested, odd_values, shown
from tests.rooms import PRIMES, all_entries, random_heap, random_line

L = (5, (1, 2, 1), ((">", ((1, 0),)), ("<", ((1, 1),))))
ONE = (5, (1,), ())
UP = (5, (1, 2), ((">", ((1, 0),)),))


def joinings_by_count(left, right):
    """All joinings, by all numbers for all pairs of a birthday and a deathday."""
    births = births_of(left)
    deaths = {day + len(left[1]): often for day, often in deaths_of(right).items()}
    pairs = [(a, b) for a in sorted(births) for b in sorted(deaths)]
    found = []
    for numbers in itertools.product(*[range(min(births[a], deaths[b]) + 1) for a, b in pairs]):
        joined = dict(zip(pairs, numbers))
        if all(sum(joined[a, b] for b in deaths) <= births[a] for a in births):
            if all(sum(joined[a, b] for a in births) <= deaths[b] for b in deaths):
                found.append(tuple((a, b, joined[a, b]) for a, b in pairs if joined[a, b]))
    return sorted(found)


def heap_by_bars(left, right, joining):
    """The heap in which the bars of both halves are joined, bar by bar."""
    many = len(left[1])
    bars = [(a, b) for a, b, often in heap_of_line(left) for _ in range(often)]
    bars += [(a + many, b + many) for a, b, often in heap_of_line(right) for _ in range(often)]
    for a, b, often in joining:
        for _ in range(often):
            bars.remove((a, many - 1))
            bars.remove((many, b))
            bars.append((a, b))
    return tuple((a, b, bars.count((a, b))) for a, b in sorted(set(bars)))


def all_tables(p, a, b):
    return itertools.product(all_entries(p, b), repeat=a)


def drawn_halves(seed, often, most=3, longest=4):
    rng = random.Random(seed)
    for number in range(often):
        p = PRIMES[number % 4]
        halves = []
        for _ in range(2):
            places = rng.randrange(1, longest + 1)
            halves.append(drawn(rng, p, random_heap(rng, places, most), random_signs(rng, places)))
        yield rng, halves[0], halves[1]


class TestJoiningAt(Checks):
    def test_known_bars_at_each_place(self):
        rng = random.Random(171)
        for p, heap, signs, line in drawn_lines(rng, 60, 6, 17):
            for k in range(len(signs)):
                self.assertEqual(joining_at(line, k), tuple(pile for pile in heap if pile[0] <= k and k + 1 <= pile[1]))

    def test_it_is_a_joining_of_the_two_halves(self):
        rng = random.Random(172)
        for p, heap, signs, line in drawn_lines(rng, 40, 5, 6):
            for k in range(len(signs)):
                left, right = cut_line(line, 0, k), cut_line(line, k + 1, len(signs))
                joining = joining_at(line, k)
                self.tells(True, is_joining, left, right, joining)
                self.assertEqual(heap_joined(left, right, joining), heap)

    def test_wrong_places_and_the_last_one(self):
        for odd in odd_values():
            if not is_line(odd):
                self.raises(BadLine, odd, joining_at, odd, None)
        for k in (None, True, False, -1, 2, 3, 10 ** 40, "1", (1,), [1], {}):
            self.raises(BadPlace, k, joining_at, L, k)
        self.raises(BadPlace, 0, joining_at, ONE, 0)
        self.assertEqual([joining_at(L, 0), joining_at(L, 1)], [((0, 1, 1),), ((1, 2, 1),)])


class TestLineWith(Checks):
    def test_both_signs(self):
        for rng, left, right in drawn_halves(173, 40):
            p, a, b = left[0], left[1][-1], right[1][0]
            for sign, here, there in ((">", a, b), ("<", b, a)):
                table = tuple(tuple(rng.randrange(p) for _ in range(there)) for _ in range(here))
                line = line_with(left, right, sign, table)
                self.tells(True, is_line, line)
                self.assertEqual(line, (p, left[1] + right[1], left[2] + ((sign, table),) + right[2]))

    def test_wrong_signs_and_tables(self):
        for sign in [odd for odd in odd_values() if odd not in (">", "<")] + ["><", "=", [">"], (">",), None]:
            self.raises(BadSign, sign, line_with, UP, ONE, sign, None)
        right = {">": ((1,), (2,)), "<": ((1, 2),)}
        for sign, other in ((">", "<"), ("<", ">")):
            self.tells(True, is_line, line_with(UP, ONE, sign, right[sign]))
            self.raises(BadTable, right[other], line_with, UP, ONE, sign, right[other])
            odd = [value for value in odd_values() if value != ((0, 0),)]
            for table in odd + [
                list(right[sign]), right[sign][:-1], right[sign] + right[sign], tuple(list(row) for row in right[sign]),
                tuple((True,) * len(row) for row in right[sign]), tuple((5,) * len(row) for row in right[sign]),
                tuple(row + (0,) for row in right[sign]), tuple(row[1:] for row in right[sign]),
            ]:
                self.raises(BadTable, table, line_with, UP, ONE, sign, table)


class TestJoinings(Checks):
    def test_all_of_drawn_halves_by_count(self):
        for _, left, right in drawn_halves(174, 60):
            told = all_joinings(left, right)
            self.assertEqual(told, joinings_by_count(left, right))
            self.assertEqual(told, sorted(told))
            for joining in told:
                self.tells(True, is_joining, left, right, joining)

    def test_each_is_made_by_either_sign(self):
        for rng, left, right in drawn_halves(175, 40):
            joinings = all_joinings(left, right)
            for joining in rng.sample(joinings, min(6, len(joinings))):
                heap = heap_by_bars(left, right, joining)
                self.assertEqual(heap_joined(left, right, joining), heap)
                self.tells(True, is_heap, len(left[1] + right[1]), heap)
                for sign in "<>":
                    line = line_with(left, right, sign, map_for(left, right, sign, joining))
                    self.assertEqual(heap_of_line(line), heap)
                    self.assertEqual(joining_at(line, len(left[1]) - 1), joining)

    def test_all_tables_between_small_halves(self):
        rng = random.Random(176)
        for p, here, there in [(2, 1, 1), (2, 2, 1), (2, 2, 2), (2, 1, 3), (3, 1, 2), (3, 2, 1), (5, 1, 1), (7, 1, 1), (2, 0, 2), (3, 1, 0)]:
            left = random_line(rng, p, [rng.randrange(3) for _ in range(rng.randrange(3))] + [here])
            right = random_line(rng, p, [there] + [rng.randrange(3) for _ in range(rng.randrange(3))])
            joinings = all_joinings(left, right)
            for sign, a, b in ((">", here, there), ("<", there, here)):
                made = set()
                for table in all_tables(p, a, b):
                    line = line_with(left, right, sign, table)
                    joining = joining_at(line, len(left[1]) - 1)
                    made.add(joining)
                    self.assertEqual(heap_joined(left, right, joining), heap_of_line(line))
                self.assertEqual(sorted(made), joinings)

    def test_the_heap_by_ranks_counted(self):
        for rng, left, right in drawn_halves(177, 16, 2, 2):
            joining = rng.choice(all_joinings(left, right))
            for sign in "<>":
                line = line_with(left, right, sign, map_for(left, right, sign, joining))
                self.assertEqual(heap_by_ranks(line), heap_joined(left, right, joining))

    def test_wide_halves(self):
        rng = random.Random(178)
        for p in PRIMES:
            left = drawn(rng, p, tuple((a, 7, 1) for a in range(8)), random_signs(rng, 8))
            right = drawn(rng, p, tuple((0, b, 1) for b in range(8)), random_signs(rng, 8))
            joining = tuple((a, 15 - a, 1) for a in range(8))
            for value in (joining, joining[::2], ()):
                heap = heap_joined(left, right, value)
                self.assertEqual(heap, heap_by_bars(left, right, value))
                for sign in "<>":
                    self.assertEqual(heap_of_line(line_with(left, right, sign, map_for(left, right, sign, value))), heap)
            self.raises(TooMany, 1000, all_joinings, left, right)

    def test_rooms_0_wide(self):
        none = (3, (2, 0), ((">", ((), ())),))
        right = (3, (2,), ())
        self.assertEqual([all_joinings(none, right), all_joinings(right, (3, (0,), ())), all_joinings((3, (0,), ()), (3, (0,), ()))], [[()]] * 3)
        self.assertEqual([map_for(none, right, ">", ()), map_for(none, right, "<", ())], [(), ((), ())])
        self.assertEqual(heap_joined(none, right, ()), ((0, 0, 2), (2, 2, 2)))

    def test_too_many(self):
        # Of all halves these are the ones with the most joinings up to 1000 and the fewest above.
        for left, right, many in [((4, 4), (2, 2, 2, 2), 998), ((2, 2, 2), (4, 2, 1, 1), 1004), ((8,), (8,), 9)]:
            halves = self.halves(left, right)
            for one, other in (halves, self.halves(right, left)):
                self.assertEqual(len(joinings_by_count(one, other)), many)
                if many > 1000:
                    self.raises(TooMany, 1000, all_joinings, one, other)
                else:
                    self.assertEqual(all_joinings(one, other), joinings_by_count(one, other))

    def halves(self, left, right):
        rng = random.Random(179)
        n = len(left) - 1
        return (drawn(rng, 3, tuple((a, n, often) for a, often in enumerate(left)), random_signs(rng, n + 1)),
                drawn(rng, 3, tuple((0, b, often) for b, often in enumerate(right)), random_signs(rng, len(right))))


class TestIsJoining(Checks):
    def test_all_small_tuples(self):
        for _, left, right in drawn_halves(180, 6, 2, 2):
            joinings = joinings_by_count(left, right)
            many = len(left[1] + right[1])
            joins = [(a, b, often) for a in range(many) for b in range(many) for often in range(-1, 3)]
            for count in range(3):
                for value in itertools.product(joins, repeat=count):
                    self.tells(value in joinings, is_joining, left, right, value)

    def test_any_value(self):
        left, right = (2, (3,), ()), (2, (3, 1), (("<", ((1, 0, 0),)),))
        self.assertEqual(all_joinings(left, right), joinings_by_count(left, right))
        for value in ((), ((0, 1, 1),), ((0, 1, 2), (0, 2, 1)), ((0, 2, 1),)):
            self.tells(True, is_joining, left, right, value)
        for value in [
            [], [(0, 1, 1)], ([0, 1, 1],), ((0, 1, 0),), ((0, 1, -1),), ((0, 1, True),), ((False, 1, 1),), ((0, True, 1),), ((0, 1, 3),),
            ((0, 2, 1), (0, 1, 1)), ((0, 1, 1), (0, 1, 1)), ((0, 1, 2), (0, 2, 2)), ((0, 2, 2),), ((0, 3, 1),), ((1, 2, 1),), ((0, 0, 1),),
            ((0, 1),), ((0, 1, 1, 1),), ((0, 1, "1"),), ((0, None, 1),), (None,), "ab", {}, {(0, 1, 1): 1}, None, ((0, 1, 10 ** 40),),
            ((0, 10 ** 40, 1),), ((-1, 1, 1),), (((0,), 1, 1),), ((0, 1, 1), None), ((0, 1, (1,)),), nested(tuple, 200), ((0, [1], 1),), ((0, {}, 1),),
        ]:
            self.tells(False, is_joining, left, right, value)
        for odd in odd_values():
            self.tells(shown(odd) == "()", is_joining, left, right, odd)

    def test_wrong_joinings(self):
        for wrong in odd_values() + [((0, 3, 1),), ((0, 2, 2),), [(0, 2, 1)], ((0, 2, 1), (0, 2, 1)), ((1, 2, 1), (0, 2, 1))]:
            if shown(wrong) != "()":
                self.raises(BadJoining, wrong, heap_joined, UP, ONE, wrong)
                self.raises(BadJoining, wrong, map_for, UP, ONE, "<", wrong)
        for sign in (None, True, "", "<>", [">"], (">",), 1):
            self.raises(BadSign, sign, map_for, UP, ONE, sign, None)
            self.raises(BadSign, sign, map_for, UP, ONE, sign, ())


class TestPairs(Checks):
    def calls(self):
        return [
            all_joinings, lambda left, right: is_joining(left, right, None), lambda left, right: heap_joined(left, right, None),
            lambda left, right: map_for(left, right, None, None), lambda left, right: line_with(left, right, None, None),
        ]

    def test_no_lines(self):
        for odd in odd_values():
            if not is_line(odd):
                for call in self.calls():
                    self.raises(BadLine, odd, call, odd, None)
                    self.raises(BadLine, odd, call, UP, odd)

    def test_no_pair(self):
        other = (3, (1,), ())
        for call in self.calls():
            self.raises_tuple(BadPair, (UP, other), call, UP, other)
            self.raises_tuple(BadPair, (other, UP), call, other, UP)

    def test_17_and_18_places_together(self):
        rng = random.Random(181)
        for many in range(1, 17):
            left = random_line(rng, 2, [rng.randrange(3) for _ in range(many)])
            right = random_line(rng, 2, [rng.randrange(3) for _ in range(17 - many)])
            joining = all_joinings(left, right)[-1]
            line = line_with(left, right, "<", map_for(left, right, "<", joining))
            self.assertEqual(len(line[1]), 17)
            self.assertEqual(heap_of_line(line), heap_joined(left, right, joining))
            self.tells(True, is_joining, left, right, joining)
            longer = random_line(rng, 2, [1] * (18 - many))
            for call in self.calls():
                self.raises_tuple(BadPair, (left, longer), call, left, longer)
                self.raises_tuple(BadPair, (longer, left), call, longer, left)


if __name__ == "__main__":
    unittest.main()
