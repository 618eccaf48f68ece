"""[8], stage 9: heaps of bars and their plain lines, held against the bars one by one."""

import random
import unittest

from staybars.bars import bars_covering, bars_of, both_heaps, cut_heap, heap_of, is_heap, mirrored_heap, plain_line
from staybars.bars import widths_of
from staybars.errors import BadBars, BadHeap, BadPair, BadPlaces, BadPrime, BadSigns, BadStretch
from staybars.lines import is_line, signs_of
from staybars.looks import rank_of
from tests.helpers import Checks, nested, odd_values, shown
from tests.rooms import PRIMES, lead, random_heap

H = ((0, 1, 1), (1, 2, 2))


def bars(heap):
    """The bars of a heap, one by one."""
    return [(a, b) for a, b, often in heap for _ in range(often)]


def heap(stretches):
    """The heap of some bars, counted."""
    return tuple((a, b, stretches.count((a, b))) for a, b in sorted(set(stretches)))


def random_heaps(seed, often=6):
    rng = random.Random(seed)
    for places in range(1, 18):
        for _ in range(often):
            yield rng, places, random_heap(rng, places)


class TestIsHeap(Checks):
    def test_heaps(self):
        for _, places, one in random_heaps(101):
            self.tells(True, is_heap, places, one)
            if places > 1:
                self.tells(all(b < places - 1 for _, b, _ in one), is_heap, places - 1, one)
        for places in range(1, 18):
            self.tells(True, is_heap, places, ())
            self.tells(True, is_heap, places, ((0, places - 1, 8),))
            self.tells(False, is_heap, places, ((0, places - 1, 9),))
            self.tells(False, is_heap, places, ((0, places, 1),))

    def test_a_place_covered_8_and_9_times(self):
        self.tells(True, is_heap, 3, ((0, 0, 3), (0, 1, 5), (1, 2, 3), (2, 2, 5)))
        self.tells(False, is_heap, 3, ((0, 0, 4), (0, 1, 5), (1, 2, 3)))
        self.tells(False, is_heap, 3, ((0, 1, 5), (1, 2, 4)))
        self.tells(False, is_heap, 3, ((0, 2, 5), (2, 2, 4)))
        self.tells(True, is_heap, 3, ((0, 0, 8), (1, 1, 8), (2, 2, 8)))

    def test_one_thing_bent(self):
        for value in [
            [(0, 1, 1)], ([0, 1, 1],), ((1, 2, 2), (0, 1, 1)), ((0, 1, 1), (0, 1, 1)), ((0, 1, 1), (0, 1, 2)),
            ((0, 2, 1), (0, 1, 1)), ((0, 1, 0),), ((0, 1, -1),), ((0, 1, True),), ((0, True, 1),), ((False, 1, 1),),
            ((1, 0, 1),), ((-1, 0, 1),), ((0, 3, 1),), ((0, 1),), ((0, 1, 1, 1),), ((0, 1, "1"),), ((0, None, 1),), None,
            "heap", {}, ((0, 1, 10 ** 40),), ((0, 10 ** 40, 1),), (None,), ((),), nested(tuple, 200), ((0, 1, (1,)),),
            ((0, 1, 1), None), ((0, 1, 1), (2, 1, 1)),
        ]:
            self.tells(False, is_heap, 3, value)
        for odd in odd_values():
            self.tells(shown(odd) in ("()", "((0, 0, 1),)"), is_heap, 4, odd)

    def test_wrong_places(self):
        for places in (0, 18, -1, True, False, None, "3", 10 ** 40, [3], (3,), {}):
            self.raises(BadPlaces, places, is_heap, places, None)
            self.raises(BadPlaces, places, heap_of, places, None)
            for call in (bars_of, widths_of, mirrored_heap):
                self.raises(BadPlaces, places, call, places, None)
            for call in (bars_covering, cut_heap):
                self.raises(BadPlaces, places, call, places, None, None, None)
            self.raises(BadPlaces, places, both_heaps, places, None, None)

    def test_wrong_heaps(self):
        for odd in odd_values() + [((0, 3, 1),), ((0, 0, 9),), ((1, 1, 1), (0, 0, 1)), [(0, 1, 1)]]:
            if shown(odd) not in ("()", "((0, 0, 1),)"):
                for call in (bars_of, widths_of, mirrored_heap):
                    self.raises(BadHeap, odd, call, 3, odd)
                for call in (bars_covering, cut_heap):
                    self.raises(BadHeap, odd, call, 3, odd, None, None)
                self.raises(BadHeap, odd, both_heaps, 3, odd, None)
                self.raises(BadHeap, odd, both_heaps, 3, (), odd)


class TestBarsAndHeaps(Checks):
    def test_there_and_back(self):
        for rng, places, one in random_heaps(102):
            told = bars_of(places, one)
            self.assertEqual(told, bars(one))
            self.assertEqual(told, sorted(told))
            rng.shuffle(told)
            self.assertEqual(heap_of(places, told), one)
        self.assertEqual([bars_of(5, ()), heap_of(5, [])], [[], ()])

    def test_9_bars_over_a_place(self):
        for stretches in ([(1, 1)] * 9, [(0, 1)] * 4 + [(1, 2)] * 5, [(0, 2)] * 8 + [(0, 0)], [(0, 2)] * 8 + [(2, 2)]):
            self.raises(BadBars, stretches, heap_of, 3, stretches)
            self.assertEqual(heap_of(3, stretches[1:]), heap(stretches[1:]))

    def test_no_stretches(self):
        for wrong in [
            None, (), ((0, 1),), "ab", {}, {(0, 1): 1}, 7, [None], [[0, 1]], [(0, 3)], [(-1, 0)], [(1, 0)], [(0,)], [(0, 1, 1)],
            [(0, True)], [(False, 1)], [(0, 1), (0, None)], [(0, "1")], [()], [{}], [(0, 10 ** 40)], nested(list, 200),
        ]:
            self.raises(BadBars, wrong, heap_of, 3, wrong)

    def test_widths_and_covering(self):
        for _, places, one in random_heaps(103, 3):
            held = bars(one)
            self.assertEqual(widths_of(places, one), tuple(sum(a <= k <= b for a, b in held) for k in range(places)))
            for a in range(places):
                for b in range(a, places):
                    wanted = len([1 for c, d in held if all(c <= k <= d for k in range(a, b + 1))])
                    self.assertEqual(bars_covering(places, one, a, b), wanted)

    def test_no_stretch(self):
        for a in range(-2, 6):
            for b in range(-2, 6):
                if not 0 <= a <= b < 3:
                    self.raises_tuple(BadStretch, (a, b), bars_covering, 3, H, a, b)
                    self.raises_tuple(BadStretch, (a, b), cut_heap, 3, H, a, b)
        for a, b in [(None, 1), (0, None), (False, 1), (0, True), ("0", 1), (0, [1]), (0, 10 ** 40), ((), {})]:
            self.raises_tuple(BadStretch, (a, b), bars_covering, 3, H, a, b)
            self.raises_tuple(BadStretch, (a, b), cut_heap, 3, H, a, b)


class TestCutMirroredBoth(Checks):
    def test_cut(self):
        for _, places, one in random_heaps(104, 3):
            held = [set(range(a, b + 1)) for a, b in bars(one)]
            for first in range(places):
                for last in range(first, places):
                    kept = [bar & set(range(first, last + 1)) for bar in held]
                    stretches = [(min(bar) - first, max(bar) - first) for bar in kept if bar]
                    told = cut_heap(places, one, first, last)
                    self.assertEqual(told, heap(stretches))
                    self.tells(True, is_heap, last - first + 1, told)

    def test_bars_that_become_equal_are_counted_together(self):
        self.assertEqual(cut_heap(5, ((0, 2, 1), (1, 4, 2), (2, 2, 1), (2, 3, 1), (4, 4, 1)), 2, 2), ((0, 0, 5),))
        self.assertEqual(cut_heap(5, ((0, 0, 1), (4, 4, 1)), 1, 3), ())

    def test_mirrored(self):
        for _, places, one in random_heaps(105):
            told = mirrored_heap(places, one)
            self.assertEqual(told, heap([(places - 1 - b, places - 1 - a) for a, b in bars(one)]))
            self.assertEqual(mirrored_heap(places, told), one)

    def test_both(self):
        for rng, places, one in random_heaps(106):
            other = random_heap(rng, places)
            both = [x + y for x, y in zip(widths_of(places, one), widths_of(places, other))]
            if max(both) > 8:
                self.raises_tuple(BadPair, (one, other), both_heaps, places, one, other)
            else:
                self.assertEqual(both_heaps(places, one, other), heap(bars(one) + bars(other)))
            self.assertEqual(both_heaps(places, one, ()), one)
            self.assertEqual(both_heaps(places, (), one), one)

    def test_both_at_8_and_9(self):
        one = ((0, 1, 3), (1, 1, 2))
        self.assertEqual(both_heaps(2, one, ((0, 1, 1), (1, 1, 2))), ((0, 1, 4), (1, 1, 4)))
        other = ((0, 1, 1), (1, 1, 3))
        self.raises_tuple(BadPair, (one, other), both_heaps, 2, one, other)


class TestPlainLine(Checks):
    def test_each_number_belongs_to_its_bar(self):
        for rng, places, one in random_heaps(107):
            p = rng.choice(PRIMES)
            signs = tuple(rng.choice("<>") for _ in range(places - 1))
            line = plain_line(p, one, signs)
            self.tells(True, is_line, line)
            self.assertEqual([line[0], line[1], signs_of(line)], [p, widths_of(places, one), signs])
            held = bars(one)
            over = [[k for k, (a, b) in enumerate(held) if a <= place <= b] for place in range(places)]
            for k, (sign, table) in enumerate(line[2]):
                here, there = (k, k + 1) if sign == ">" else (k + 1, k)
                for number, bar in enumerate(over[here]):
                    entry = tuple(int(j == number) for j in range(len(over[here])))
                    wanted = tuple(int(other == bar) for other in over[there])
                    self.assertEqual(lead(p, len(over[there]), table, entry), wanted)

    def test_equal_bars_keep_their_sequence(self):
        told = plain_line(3, ((0, 0, 1), (0, 1, 2), (1, 1, 1)), (">",))
        self.assertEqual(told, (3, (3, 3), ((">", ((0, 0, 0), (1, 0, 0), (0, 1, 0))),)))
        told = plain_line(3, ((0, 0, 1), (0, 1, 2), (1, 1, 1)), ("<",))
        self.assertEqual(told, (3, (3, 3), (("<", ((0, 1, 0), (0, 0, 1), (0, 0, 0))),)))

    def test_ranks_of_the_plain_line(self):
        rng = random.Random(108)
        for places in (1, 2, 4, 6):
            for p in PRIMES:
                one = random_heap(rng, places)
                line = plain_line(p, one, tuple(rng.choice("<>") for _ in range(places - 1)))
                for a in range(places):
                    for b in range(a, places):
                        self.assertEqual(rank_of(line, a, b), bars_covering(places, one, a, b))

    def test_ends(self):
        self.assertEqual(plain_line(7, (), ()), (7, (0,), ()))
        self.assertEqual(plain_line(7, ((0, 0, 8),), ()), (7, (8,), ()))
        self.assertEqual(plain_line(2, (), ("<",) * 16), (2, (0,) * 17, (("<", ()),) * 16))

    def test_errors_in_their_sequence(self):
        for wrong in (None, 4, True, "2", [2], 1, 11):
            self.raises(BadPrime, wrong, plain_line, wrong, None, None)
        for wrong in (None, "><", [">"], (">",) * 17, (">", "="), ("><",), (None,), (">", True), {}, 5, ((">",),), ("",)):
            self.raises(BadSigns, wrong, plain_line, 2, None, wrong)
        for wrong in (None, [], ((0, 2, 1),), ((0, 1, 9),), ((1, 1, 1), (0, 0, 1)), "a", {}):
            self.raises(BadHeap, wrong, plain_line, 2, wrong, (">",))


if __name__ == "__main__":
    unittest.main()
