"""[19], stage 21: forth lines thought on behind their last place, and how long bars are."""

import itertools
import random
import unittest

from staybars.errors import BadBar, BadLine, BadNumber, BadPlace, BadPlaces, NotForth
from staybars.flags import heap_of_line
from staybars.lines import is_line, signs_of
from staybars.shifts import goes_on, is_forth, is_long, length_of, shifted_line, steps_on
from tests.drawn import same_rows
from tests.forths import drawn_forth, forth_line, long_by_words, units, walked_on, width_at
from tests.helpers import Checks, odd_values
from tests.rooms import PRIMES, random_heap

S = (2, (1, 1, 1, 0, 0), ((">", ((1,),)), (">", ((1,),)), (">", ((),)), (">", ())))
NO_NUMBERS = [None, True, False, -1, 41, 10 ** 40, "1", (1,), [1], {}, ""]


def moved_ahead(places, heap, many):
    """The heap of the bars moved so many places ahead, those that go on to the same last place."""
    found = {}
    for a, b, often in heap:
        end = places - 1 if b == places - 1 else b - many
        if end >= 0:
            bar = (max(a - many, 0), end)
            found[bar] = found.get(bar, 0) + often
    return tuple((a, b, found[a, b]) for a, b in sorted(found))


class TestForth(Checks):
    def test_lines_of_1_to_17_places(self):
        rng = random.Random(401)
        for places in range(1, 18):
            line = forth_line(rng, PRIMES[places % 4], [rng.randrange(3) for _ in range(places)])
            self.tells(True, is_forth, line)
            for at in range(places - 1):
                widths = line[1]
                back = ("<", ((0,) * widths[at],) * widths[at + 1])
                bent = (line[0], widths, line[2][:at] + (back,) + line[2][at + 1:])
                self.tells(False, is_forth, bent)
                self.raises(NotForth, bent, steps_on, bent, None, None)
                self.raises(NotForth, bent, shifted_line, bent, None)
        self.tells(True, is_forth, (7, (8,), ()))

    def test_no_line_comes_first(self):
        for odd in odd_values():
            if not is_line(odd):
                self.raises(BadLine, odd, is_forth, odd)
                self.raises(BadLine, odd, steps_on, odd, None, None)
                self.raises(BadLine, odd, shifted_line, odd, None)


class TestSteps(Checks):
    def test_each_entry_map_by_map(self):
        rng = random.Random(402)
        for number in range(40):
            places = 1 + number % 17
            line = forth_line(rng, PRIMES[number % 4], [rng.randrange(4) for _ in range(places)])
            for k in range(places):
                for many in sorted({0, 1, 2, 3, places - 1 - k, places - k, places, 17, 39, 40}):
                    wanted = tuple(walked_on(line, k, x, many) for x in units(line[1][k]))
                    self.assertEqual(steps_on(line, k, many), wanted)

    def test_up_to_the_last_place_and_far_beyond(self):
        line = (5, (1, 1, 1), ((">", ((2,),)), (">", ((3,),))))
        told = [steps_on(line, 0, many) for many in (0, 1, 2, 3, 40)]
        self.assertEqual(told, [((1,),), ((2,),), ((1,),), ((1,),), ((1,),)])
        self.assertEqual([steps_on(line, 2, many) for many in (0, 1, 40)], [((1,),)] * 3)
        self.assertEqual([steps_on(line, 1, many) for many in (0, 1, 2)], [((1,),), ((3,),), ((3,),)])

    def test_rooms_0_wide(self):
        line = (3, (2, 0, 1), ((">", ((), ())), (">", ())))
        self.assertEqual([steps_on(line, 0, many) for many in (0, 1, 2, 40)], [same_rows(2), ((), ()), ((0,), (0,)), ((0,), (0,))])
        self.assertEqual([steps_on(line, 1, many) for many in (0, 1, 2)], [(), (), ()])
        self.assertEqual([steps_on((3, (0,), ()), 0, 40), steps_on((3, (8,), ()), 0, 40)], [(), same_rows(8)])

    def test_errors(self):
        for k in (None, True, False, -1, 5, 17, 10 ** 40, "0", (0,), [0], {}, ""):
            self.raises(BadPlace, k, steps_on, S, k, None)
        for number in NO_NUMBERS:
            self.raises(BadNumber, number, steps_on, S, 4, number)
            self.raises(BadNumber, number, shifted_line, S, number)
        self.assertEqual([steps_on(S, 0, 40), shifted_line(S, 40)[1]], [((),), (0,) * 5])


class TestShifted(Checks):
    def test_rooms_and_maps(self):
        rng = random.Random(403)
        for number in range(40):
            places = 1 + number % 17
            line = forth_line(rng, PRIMES[number % 4], [rng.randrange(4) for _ in range(places)])
            for many in (0, 1, 2, 5, places - 1, places, places + 1, 40):
                told = shifted_line(line, many)
                self.tells(True, is_line, told)
                self.assertEqual([told[0], len(told[1]), signs_of(told)], [line[0], places, (">",) * (places - 1)])
                self.assertEqual(told[1], tuple(width_at(line, k + many) for k in range(places)))
                for k in range(places - 1):
                    self.assertEqual(told[2][k][1], tuple(walked_on(line, k + many, x, 1) for x in units(told[1][k])))
            self.assertEqual(shifted_line(line, 0), line)

    def test_the_heap_is_moved_ahead(self):
        rng = random.Random(404)
        for number in range(60):
            places = 1 + number % 9
            heap = random_heap(rng, places, 5)
            line = drawn_forth(rng, PRIMES[number % 4], places, heap)
            for many in (0, 1, 2, places - 1, places, 40):
                self.assertEqual(heap_of_line(shifted_line(line, many)), moved_ahead(places, heap, many))

    def test_beyond_the_last_place(self):
        line = (5, (1, 2), ((">", ((3, 4),)),))
        self.assertEqual(shifted_line(line, 1), (5, (2, 2), ((">", ((1, 0), (0, 1))),)))
        self.assertEqual(shifted_line(line, 40), (5, (2, 2), ((">", ((1, 0), (0, 1))),)))
        self.assertEqual([shifted_line((5, (2,), ()), many) for many in (0, 1, 40)], [(5, (2,), ())] * 3)


class TestBars(Checks):
    def test_all_bars(self):
        for places in (1, 2, 3, 8, 17):
            for a in range(places):
                for b in range(a, places):
                    self.tells(b == places - 1, goes_on, places, (a, b))
                    self.assertEqual(length_of(places, (a, b)), None if b == places - 1 else b - a + 1)
                    for e in (0, 1, 2, 3, 7, 8, 40):
                        self.tells(long_by_words(places, (a, b), e), is_long, places, (a, b), e)

    def test_at_a_length_of_2_e_and_one_more(self):
        for e in range(1, 8):
            self.tells(False, is_long, 17, (0, 2 * e - 1), e)
            self.tells(True, is_long, 17, (0, 2 * e), e)
            self.tells(True, is_long, 2 * e, (0, 2 * e - 1), e)
        self.tells(True, is_long, 2, (0, 0), 0)
        self.tells(True, is_long, 1, (0, 0), 40)
        self.tells(False, is_long, 17, (0, 15), 8)

    def test_errors(self):
        for call in (goes_on, length_of, lambda places, bar: is_long(places, bar, None)):
            for places in (None, True, 0, 18, -1, 10 ** 40, "3", [3]):
                self.raises(BadPlaces, places, call, places, None)
            for bar in odd_values() + [(0, 3), (-1, 0), [0, 1], (0, True)]:
                if bar not in ((0, 0), (0, 1)):
                    self.raises(BadBar, bar, call, 3, bar)
        for number in NO_NUMBERS:
            self.raises(BadNumber, number, is_long, 3, (0, 1), number)

    def test_bars_of_other_numbers_of_places(self):
        for places, bar in itertools.product(range(1, 5), [(0, 0), (0, 3), (3, 3)]):
            if bar[1] >= places:
                self.raises(BadBar, bar, goes_on, places, bar)


if __name__ == "__main__":
    unittest.main()
