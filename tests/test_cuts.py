"""[11], stage 13: each cut tells the bars over it; with those ahead and past they are the heap."""

import random
import unittest

from staybars.cuts import bars_ahead, bars_over, bars_past, meets_at
from staybars.errors import BadLine, BadPlace
from staybars.flags import heap_of_line
from staybars.lines import cut_line, is_line
from tests.drawn import drawn_lines, flag_by_sets, heap_by_ranks, turned
from tests.helpers import Checks, odd_values
from tests.rooms import random_line, span, width_in

L = (5, (1, 2, 1), ((">", ((1, 0),)), ("<", ((1, 1),))))


class TestMeets(Checks):
    def test_counted_over_all_entries(self):
        rng = random.Random(141)
        for p, widest in [(2, 4), (3, 3), (5, 2), (7, 2)]:
            for _ in range(10):
                line = random_line(rng, p, [rng.randrange(widest + 1) for _ in range(rng.randrange(1, 6))])
                for k in range(len(line[1])):
                    self.assertEqual(meets_at(line, k), self.meets_by_sets(line, k))

    def meets_by_sets(self, line, k):
        p, widths, maps = line
        n = len(maps)
        left = [(day, span(p, widths[k], part)) for day, part in flag_by_sets(cut_line(line, 0, k))]
        right = [(n - day, span(p, widths[k], part)) for day, part in flag_by_sets(turned(cut_line(line, k, n)))]
        return {(a, b): width_in(p, first & second) for a, first in left for b, second in right}

    def test_meets_of_width_0_are_told(self):
        self.assertEqual(meets_at(L, 1), {(0, 2): 0, (0, 1): 1, (1, 2): 1, (1, 1): 2})
        self.assertEqual(meets_at(L, 0), {(0, 1): 1})
        self.assertEqual(meets_at(L, 2), {(1, 2): 1})
        cross = (2, (1, 2, 1), ((">", ((1, 0),)), (">", ((0,), (1,)))))
        self.assertEqual(meets_at(cross, 1), {(0, 1): 1, (0, 2): 1, (1, 1): 1, (1, 2): 2})

    def test_rooms_0_wide_and_one_place(self):
        line = (3, (0, 2, 0), ((">", ()), ("<", ())))
        self.assertEqual([meets_at(line, k) for k in range(3)], [{}, {(1, 1): 2}, {}])
        self.assertEqual([bars_over(line, k) for k in range(3)], [(), ((1, 1, 2),), ()])
        self.assertEqual([bars_ahead(line, k) for k in range(3)], [(), (), ((1, 1, 2),)])
        self.assertEqual([bars_past(line, k) for k in range(3)], [((1, 1, 2),), (), ()])
        one = (3, (4,), ())
        self.assertEqual([meets_at(one, 0), bars_over(one, 0), bars_ahead(one, 0), bars_past(one, 0)],
                         [{(0, 0): 4}, ((0, 0, 4),), (), ()])
        none = (3, (0,), ())
        self.assertEqual([meets_at(none, 0), bars_over(none, 0), bars_ahead(none, 0), bars_past(none, 0)], [{}, (), (), ()])


class TestBarsAtCuts(Checks):
    def test_known_bars_at_each_place(self):
        rng = random.Random(142)
        for p, heap, signs, line in drawn_lines(rng, 60, 6, 12):
            for k in range(len(signs) + 1):
                ahead, over, past = bars_ahead(line, k), bars_over(line, k), bars_past(line, k)
                self.assertEqual(ahead, tuple(pile for pile in heap if pile[1] < k))
                self.assertEqual(over, tuple(pile for pile in heap if pile[0] <= k <= pile[1]))
                self.assertEqual(past, tuple(pile for pile in heap if pile[0] > k))
                self.assertEqual(tuple(sorted(ahead + over + past)), heap_of_line(line))

    def test_by_the_widths_of_meets_alone(self):
        rng = random.Random(143)
        for p, heap, signs, line in drawn_lines(rng, 30, 6, 6):
            for k in range(len(signs) + 1):
                meets = meets_at(line, k)
                births, deaths = ([key[side] for key in meets] for side in (0, 1))
                self.assertEqual(len(meets), len(set(births)) * len(set(deaths)))
                self.assertEqual(max(meets.values(), default=0), line[1][k])

    def test_the_heap_by_ranks_counted(self):
        rng = random.Random(144)
        for p, widest in [(2, 4), (3, 3), (7, 2)]:
            for _ in range(8):
                line = random_line(rng, p, [rng.randrange(widest + 1) for _ in range(rng.randrange(1, 6))])
                heap = heap_by_ranks(line)
                for k in range(len(line[1])):
                    self.assertEqual(bars_over(line, k), tuple(pile for pile in heap if pile[0] <= k <= pile[1]))

    def test_17_places_8_wide(self):
        rng = random.Random(145)
        for p, heap, signs, line in drawn_lines(rng, 20, 8, 17):
            if len(signs) == 16:
                for k in (0, 8, 16):
                    self.assertEqual(bars_over(line, k), tuple(pile for pile in heap if pile[0] <= k <= pile[1]))


class TestErrors(Checks):
    def test_line_then_place(self):
        for call in (meets_at, bars_over, bars_ahead, bars_past):
            for odd in odd_values():
                if not is_line(odd):
                    self.raises(BadLine, odd, call, odd, None)
            for k in (None, True, False, -1, 3, 10 ** 40, "1", (1,), [1], {1: 1}, (), -10 ** 40):
                self.raises(BadPlace, k, call, L, k)
            for k in (True, False, 1, -1):
                self.raises(BadPlace, k, call, (5, (1,), ()), k)


if __name__ == "__main__":
    unittest.main()
