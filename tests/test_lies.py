"""[17], stage 20: which forth lines lie within others, and which lead onto others."""

import itertools
import random
import unittest

from staybars.crossings import all_crossings, is_crossing, is_one_to_one, is_onto, sum_crossing
from staybars.errors import BadLine, BadPair, NotForth
from staybars.lies import fewer_births, into_crossing, more_ends, onto_crossing
from staybars.lines import is_line
from tests.drawn import drawn, nought_table
from tests.helpers import Checks, odd_values
from tests.rooms import PRIMES, random_heap

LONG, LATE, BRIEF = (2, (1, 1), ((">", ((1,),)),)), (2, (0, 1), ((">", ()),)), (2, (1, 0), ((">", ((),)),))


def bars(heap):
    return [(a, b) for a, b, often in heap for _ in range(often)]


def more_ends_by_bars(places, one, other):
    """The first (d, a) such that the one has more bars that end at d and begin at a or ahead of it."""
    for d in range(places):
        for a in range(d + 1):
            first, second = ([bar for bar in bars(heap) if bar[1] == d and bar[0] <= a] for heap in (one, other))
            if len(first) > len(second):
                return d, a
    return None


def fewer_births_by_bars(places, one, other):
    """The first (a, d) such that the one has fewer bars that begin at a and end at d or behind it."""
    for a in range(places):
        for d in range(a, places):
            first, second = ([bar for bar in bars(heap) if bar[0] == a and bar[1] >= d] for heap in (one, other))
            if len(first) < len(second):
                return a, d
    return None


def forth_pairs(seed, often, most=3, longest=5):
    """Two heaps, often such that the one lies within the other or leads onto it, and drawn forth lines of them."""
    rng = random.Random(seed)
    for number in range(often):
        p, places = PRIMES[number % 4], rng.randrange(1, longest + 1)
        one = random_heap(rng, places, most)
        kind = number // 4 % 3
        other = random_heap(rng, places, most)
        if kind == 1:
            kept = bars(one)
            rng.shuffle(kept)
            kept = kept[:len(kept) // 2 + 1]
            one, other = counted([(rng.randrange(a, b + 1), b) for a, b in kept]), one
        if kind == 2:
            kept = bars(one)
            rng.shuffle(kept)
            other = counted([(a, rng.randrange(a, b + 1)) for a, b in kept[:len(kept) // 2 + 1]])
        yield rng, places, one, other, drawn(rng, p, one, (">",) * (places - 1)), drawn(rng, p, other, (">",) * (places - 1))


def counted(stretches):
    return tuple((a, b, stretches.count((a, b))) for a, b in sorted(set(stretches)))


class TestKnownBars(Checks):
    def test_into(self):
        told = []
        for _, places, first, second, one, other in forth_pairs(231, 200, 4, 8):
            wanted = more_ends_by_bars(places, first, second)
            told.append(wanted is None)
            self.assertEqual(more_ends(one, other), wanted)
            crossing = into_crossing(one, other)
            self.assertEqual(crossing is None, wanted is not None)
            if crossing is not None:
                self.tells(True, is_crossing, one, other, crossing)
                self.tells(True, is_one_to_one, one, other, crossing)
                self.assertEqual(into_crossing(one, other), crossing)
        self.assertTrue(50 < sum(told) < 150)

    def test_onto(self):
        told = []
        for _, places, first, second, one, other in forth_pairs(232, 200, 4, 8):
            wanted = fewer_births_by_bars(places, first, second)
            told.append(wanted is None)
            self.assertEqual(fewer_births(one, other), wanted)
            crossing = onto_crossing(one, other)
            self.assertEqual(crossing is None, wanted is not None)
            if crossing is not None:
                self.tells(True, is_crossing, one, other, crossing)
                self.tells(True, is_onto, one, other, crossing)
                self.assertEqual(onto_crossing(one, other), crossing)
        self.assertTrue(50 < sum(told) < 150)

    def test_none_among_all_crossings_of_small_lines(self):
        found = {}
        for _, places, first, second, one, other in forth_pairs(233, 150, 2, 3):
            p, base = one[0], all_crossings(one, other)
            if p ** len(base) <= 130:
                kinds = set()
                for numbers in itertools.product(range(p), repeat=len(base)):
                    total = tuple(nought_table(a, b) for a, b in zip(one[1], other[1]))
                    for number, crossing in zip(numbers, base):
                        total = sum_crossing(one, other, total, crossing, number)
                    kinds.add(("into", is_one_to_one(one, other, total)))
                    kinds.add(("onto", is_onto(one, other, total)))
                into, onto = ("into", True) in kinds, ("onto", True) in kinds
                self.assertEqual(into_crossing(one, other) is not None, into)
                self.assertEqual(onto_crossing(one, other) is not None, onto)
                found[into, onto] = True
        self.assertEqual(len(found), 4)

    def test_one_bar_within_another(self):
        rng = random.Random(234)
        places = 4
        for (a, b), (c, d) in itertools.product([(a, b) for a in range(places) for b in range(a, places)], repeat=2):
            one, other = (drawn(rng, 3, (bar + (1,),), (">",) * 3) for bar in ((a, b), (c, d)))
            self.assertEqual(into_crossing(one, other) is not None, b == d and c <= a)
            self.assertEqual(onto_crossing(one, other) is not None, a == c and b >= d)
            self.assertEqual(more_ends(one, other), None if b == d and c <= a else (b, a))
            self.assertEqual(fewer_births(one, other), None if a == c and b >= d else (c, c if a != c else b + 1))

    def test_the_least_and_the_greatest(self):
        rng = random.Random(235)
        for p in PRIMES:
            none = (p, (0,) * 17, ((">", ()),) * 16)
            line = drawn(rng, p, random_heap(rng, 17, 8), (">",) * 16)
            self.assertEqual(into_crossing(none, line), ((),) * 17)
            self.assertEqual(onto_crossing(line, none), tuple(((),) * width for width in line[1]))
            self.tells(True, is_one_to_one, line, line, into_crossing(line, line))
            self.tells(True, is_onto, line, line, onto_crossing(line, line))
            self.assertEqual([more_ends(none, line), fewer_births(line, none)], [None, None])

    def test_one_place(self):
        for many, more in itertools.product(range(4), repeat=2):
            one, other = (5, (many,), ()), (5, (more,), ())
            self.assertEqual([into_crossing(one, other) is not None, more_ends(one, other)], [many <= more, None if many <= more else (0, 0)])
            self.assertEqual([onto_crossing(one, other) is not None, fewer_births(one, other)], [many >= more, None if many >= more else (0, 0)])

    def test_greedy_by_the_other_end_would_fail(self):
        rng = random.Random(236)
        # The later bar of the one fits both of the other, the elder one only the elder.
        one, other = ((1, 3, 1), (2, 3, 1)), ((0, 3, 1), (2, 3, 1))
        lines = [drawn(rng, 2, heap, (">",) * 3) for heap in (one, other)]
        self.tells(True, is_one_to_one, *lines, into_crossing(*lines))
        one, other = ((0, 1, 1), (0, 3, 1)), ((0, 1, 1), (0, 2, 1))
        lines = [drawn(rng, 2, heap, (">",) * 3) for heap in (one, other)]
        self.tells(True, is_onto, *lines, onto_crossing(*lines))


class TestErrors(Checks):
    def test_no_lines(self):
        for call in (into_crossing, onto_crossing, more_ends, fewer_births):
            for odd in odd_values():
                if not is_line(odd):
                    self.raises(BadLine, odd, call, odd, None)
                    self.raises(BadLine, odd, call, LONG, odd)

    def test_no_fellows_ahead_of_no_forth_lines(self):
        back = (2, (1, 1), (("<", ((1,),)),))
        mixed = (2, (1, 1, 1), ((">", ((1,),)), ("<", ((1,),))))
        for call in (into_crossing, onto_crossing, more_ends, fewer_births):
            for one, other in [(LONG, back), (back, LONG), (LONG, (3, (1, 1), ((">", ((1,),)),))), (back, (3,) + back[1:]), (mixed, back), (LONG, (2, (1,), ()))]:
                self.raises_tuple(BadPair, (one, other), call, one, other)
            for one in (back, mixed, (2, (1, 1, 1), (("<", ((1,),)), (">", ((1,),))))):
                other = (2, one[1], tuple((sign, ((0,),)) for sign, _ in one[2]))
                self.raises(NotForth, one, call, one, other)
                self.raises(NotForth, other, call, other, one)
                self.raises(NotForth, one, call, one, one)

    def test_first_ones(self):
        self.assertEqual([more_ends(LONG, LATE), more_ends(LATE, LONG), more_ends(BRIEF, LONG)], [(1, 0), None, (0, 0)])
        self.assertEqual([fewer_births(LATE, LONG), fewer_births(LONG, BRIEF), fewer_births(BRIEF, LONG)], [(0, 0), None, (0, 1)])


if __name__ == "__main__":
    unittest.main()
