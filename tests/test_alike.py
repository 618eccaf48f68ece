"""[16], stage 18: alike lines, the backs of crossings, and what parts lines that are not alike."""

import itertools
import random
import unittest

from staybars.alike import alike_crossing, back_crossing, parting_stretch
from staybars.bars import bars_covering
from staybars.crossings import all_crossings, behind_crossing, is_crossing, is_one_to_one, is_onto, same_crossing, sum_crossing
from staybars.errors import BadCrossing, BadLine, BadPair
from staybars.flags import heap_of_line
from staybars.lines import is_line
from tests.drawn import drawn, drawn_lines, nought_table, random_signs, same_rows, stretches, told_anew
from tests.helpers import Checks, odd_values
from tests.rooms import PRIMES, all_entries, lead, random_heap, rank_by_count

ONE = (3, (1, 1), ((">", ((1,),)),))
TWO = (3, (1, 1), ((">", ((2,),)),))
THREE = (3, (1, 1), ((">", ((0,),)),))


def leads_back(one, other, crossing, back):
    """Whether each entry comes back to itself, both ways."""
    p = one[0]
    for a, b, there, again in zip(one[1], other[1], crossing, back):
        if any(lead(p, a, again, lead(p, b, there, x)) != x for x in all_entries(p, a)):
            return False
        if any(lead(p, b, there, lead(p, a, again, x)) != x for x in all_entries(p, b)):
            return False
    return True


class TestAlike(Checks):
    def test_lines_told_in_other_bases(self):
        rng = random.Random(211)
        for p, heap, signs, line in drawn_lines(rng, 80, 6, 17):
            other = told_anew(rng, line)
            way = alike_crossing(line, other)
            self.tells(True, is_crossing, line, other, way)
            back = back_crossing(line, other, way)
            self.tells(True, is_crossing, other, line, back)
            self.assertEqual(behind_crossing(line, other, line, way, back), same_crossing(line))
            self.assertEqual(behind_crossing(other, line, other, back, way), same_crossing(other))
            self.assertIsNone(parting_stretch(line, other))
            self.assertEqual(alike_crossing(line, other), way)
            self.assertEqual(back_crossing(other, line, back), way)

    def test_lines_of_other_bars(self):
        rng = random.Random(212)
        told = 0
        for number in range(100):
            p, places = PRIMES[number % 4], 1 + number % 6
            signs = random_signs(rng, places)
            heaps = [random_heap(rng, places, 3) for _ in range(2)]
            one, other = (drawn(rng, p, heap, signs) for heap in heaps)
            parting = [s for s in stretches(places) if bars_covering(places, heaps[0], *s) != bars_covering(places, heaps[1], *s)]
            self.assertEqual(parting_stretch(one, other), parting[0] if parting else None)
            self.assertEqual(alike_crossing(one, other) is None, bool(parting))
            told += bool(parting)
        self.assertGreater(told, 50)

    def test_the_first_parting_stretch_by_ranks_counted(self):
        rng = random.Random(213)
        for number in range(30):
            p, places = (2, 3)[number % 2], 1 + number % 4
            signs = random_signs(rng, places)
            one, other = (drawn(rng, p, random_heap(rng, places, 2), signs) for _ in range(2))
            parting = [s for s in stretches(places) if rank_by_count(one, *s) != rank_by_count(other, *s)]
            self.assertEqual(parting_stretch(one, other), parting[0] if parting else None)

    def test_like_widths_but_unlike_bars(self):
        self.assertEqual([alike_crossing(ONE, THREE), parting_stretch(ONE, THREE), parting_stretch(THREE, ONE)], [None, (0, 1), (0, 1)])
        rng = random.Random(214)
        for p in PRIMES:
            signs = random_signs(rng, 4)
            one = drawn(rng, p, ((0, 1, 1), (1, 3, 1), (2, 2, 1)), signs)
            other = drawn(rng, p, ((0, 2, 1), (1, 1, 1), (2, 3, 1)), signs)
            self.assertEqual(one[1], other[1])
            self.assertEqual([alike_crossing(one, other), parting_stretch(one, other)], [None, (0, 2)])

    def test_no_crossing_of_other_bars_has_a_back(self):
        rng = random.Random(215)
        for number in range(40):
            signs = random_signs(rng, 3)
            one, other = (drawn(rng, 2, random_heap(rng, 3, 2), signs) for _ in range(2))
            base = all_crossings(one, other)
            if len(base) <= 6:
                found = False
                for numbers in itertools.product(range(2), repeat=len(base)):
                    total = tuple(nought_table(a, b) for a, b in zip(one[1], other[1]))
                    for many, crossing in zip(numbers, base):
                        total = sum_crossing(one, other, total, crossing, many)
                    back = back_crossing(one, other, total)
                    self.assertEqual(back is not None, is_one_to_one(one, other, total) and is_onto(one, other, total))
                    self.assertTrue(back is None or leads_back(one, other, total, back))
                    found = found or back is not None
                self.assertEqual(found, heap_of_line(one) == heap_of_line(other))
                self.assertEqual(found, alike_crossing(one, other) is not None)

    def test_rooms_0_wide(self):
        none = (5, (0, 0), ((">", ()),))
        self.assertEqual([alike_crossing(none, none), back_crossing(none, none, ((), ())), parting_stretch(none, none)], [((), ()), ((), ()), None])
        wide = (5, (0, 1), ((">", ()),))
        self.assertEqual([alike_crossing(none, wide), parting_stretch(none, wide)], [None, (1, 1)])
        self.assertEqual([back_crossing(none, wide, ((), ())), back_crossing(wide, none, ((), ((),)))], [None, None])


class TestBack(Checks):
    def test_backs_of_known_crossings(self):
        self.assertEqual(back_crossing(ONE, TWO, (((1,),), ((2,),))), (((1,),), ((2,),)))
        self.assertIsNone(back_crossing(ONE, TWO, (((0,),), ((0,),))))
        small, room = (3, (1,), ()), (3, (2,), ())
        self.assertIsNone(back_crossing(small, room, (((1, 2),),)))
        self.assertIsNone(back_crossing(room, small, (((1,), (2,)),)))
        self.assertEqual(back_crossing(room, room, (((1, 1), (0, 2)),)), (((1, 1), (0, 2)),))
        self.assertIsNone(back_crossing(room, room, (((1, 2), (2, 1)),)))
        # A back at one place and none at another one is none.
        apart = (3, (1, 1), ((">", ((0,),)),))
        self.assertIsNone(back_crossing(apart, apart, (((2,),), ((0,),))))
        self.assertIsNone(back_crossing(apart, apart, (((0,),), ((2,),))))
        self.assertEqual(back_crossing(apart, apart, (((2,),), ((1,),))), (((2,),), ((1,),)))

    def test_backs_by_entries(self):
        rng = random.Random(216)
        for p, heap, signs, line in drawn_lines(rng, 30, 2, 4):
            other = told_anew(rng, line)
            way = alike_crossing(line, other)
            self.assertTrue(leads_back(line, other, way, back_crossing(line, other, way)))

    def test_8_wide(self):
        rng = random.Random(217)
        for p in PRIMES:
            line = drawn(rng, p, ((0, 16, 8),), random_signs(rng, 17))
            other = told_anew(rng, line)
            way = alike_crossing(line, other)
            back = back_crossing(line, other, way)
            self.assertEqual(behind_crossing(line, other, line, way, back), (same_rows(8),) * 17)


class TestErrors(Checks):
    def test_no_lines(self):
        for odd in odd_values():
            if not is_line(odd):
                for call in (alike_crossing, parting_stretch, lambda one, other: back_crossing(one, other, None)):
                    self.raises(BadLine, odd, call, odd, None)
                    self.raises(BadLine, odd, call, ONE, odd)

    def test_no_fellows(self):
        for stranger in [(2, (1, 1), ((">", ((1,),)),)), (3, (1, 1), (("<", ((1,),)),)), (3, (1,), ()), (3, (1, 1, 0), ((">", ((1,),)), (">", ((),))))]:
            for call in (alike_crossing, parting_stretch, lambda one, other: back_crossing(one, other, None)):
                self.raises_tuple(BadPair, (ONE, stranger), call, ONE, stranger)
                self.raises_tuple(BadPair, (stranger, ONE), call, stranger, ONE)

    def test_no_crossings(self):
        for odd in odd_values() + [(((1,),), ((1,),)), [((1,),), ((2,),)], (((1,),),), (((True,),), ((2,),))]:
            self.raises(BadCrossing, odd, back_crossing, ONE, TWO, odd)


if __name__ == "__main__":
    unittest.main()
