"""[15], stage 10: ranks of lines and of heaps, and the looks that tell heaps apart."""

import itertools
import random
import unittest

from staybars.bars import bars_covering, heap_of, is_heap
from staybars.errors import BadHeap, BadLine, BadLooks, BadPlaces, BadRanks, BadStretch
from staybars.looks import are_ranks, heap_of_ranks, looks_enough, rank_of, ranks_of, tells_apart
from tests.helpers import Checks, nested, odd_values, shown
from tests.rooms import PRIMES, random_heap, random_line, rank_by_count

L = (5, (1, 2, 1), ((">", ((1, 0),)), ("<", ((1, 1),))))
H = ((0, 1, 1), (1, 2, 2))
RANKS = {(0, 0): 1, (0, 1): 1, (0, 2): 0, (1, 1): 3, (1, 2): 2, (2, 2): 2}


def stretches(places):
    return [(a, b) for a in range(places) for b in range(a, places)]


class TestRankOf(Checks):
    def test_counted_over_all_entries(self):
        rng = random.Random(111)
        for p, widest in [(2, 4), (3, 3), (5, 2), (7, 2)]:
            for _ in range(20):
                line = random_line(rng, p, [rng.randrange(widest + 1) for _ in range(rng.randrange(1, 6))])
                for a, b in stretches(len(line[1])):
                    self.assertEqual(rank_of(line, a, b), rank_by_count(line, a, b))

    def test_both_signs(self):
        one, other = ((1, 0), (0, 0)), ((0, 1), (0, 0))
        for first, second in itertools.product("<>", repeat=2):
            for x, y in itertools.product((one, other), repeat=2):
                line = (3, (2, 2, 2), ((first, x), (second, y)))
                self.assertEqual(rank_of(line, 0, 2), rank_by_count(line, 0, 2))
                self.assertEqual([rank_of(line, 0, 1), rank_of(line, 1, 2), rank_of(line, 1, 1)], [1, 1, 2])

    def test_wide_and_long_lines(self):
        same = tuple(tuple(int(i == j) for j in range(8)) for i in range(8))
        maps = tuple(((">", "<")[k % 2], same) for k in range(16))
        line = (7, (8,) * 17, maps)
        self.assertEqual([rank_of(line, 0, 16), rank_of(line, 3, 3), rank_of(line, 16, 16)], [8, 8, 8])
        line = (7, (0,) * 17, tuple((sign, ()) for sign, _ in maps))
        self.assertEqual(rank_of(line, 0, 16), 0)

    def test_errors(self):
        for odd in odd_values():
            if shown(odd) not in ("(2, (0,), ())", "(5, (1,), ())"):
                self.raises(BadLine, odd, rank_of, odd, None, None)
        for a, b in [
            (-1, 0), (0, 3), (2, 1), (3, 3), (True, 1), (0, True), (None, 1), (0, None), ("0", "1"), ([], 1), (0, 10 ** 40),
        ]:
            self.raises_tuple(BadStretch, (a, b), rank_of, L, a, b)


class TestRanks(Checks):
    def test_there_and_back(self):
        rng = random.Random(112)
        for places in range(1, 18):
            for _ in range(5):
                one = random_heap(rng, places)
                ranks = ranks_of(places, one)
                self.assertIs(type(ranks), dict)
                self.assertEqual(sorted(ranks), stretches(places))
                for a, b in ranks:
                    self.assertEqual(ranks[a, b], bars_covering(places, one, a, b))
                self.tells(True, are_ranks, places, ranks)
                self.assertEqual(heap_of_ranks(places, ranks), one)
                keys = list(ranks)
                rng.shuffle(keys)
                self.assertEqual(heap_of_ranks(places, {key: ranks[key] for key in keys}), one)

    def test_all_dicts_of_two_places(self):
        right = {tuple(sorted(ranks_of(2, one).items())) for one in self.all_heaps()}
        for numbers in itertools.product(range(-1, 10), repeat=3):
            value = dict(zip([(0, 0), (0, 1), (1, 1)], numbers))
            wanted = tuple(sorted(value.items())) in right
            self.tells(wanted, are_ranks, 2, value)
            if wanted:
                self.assertEqual(ranks_of(2, heap_of_ranks(2, value)), value)
            else:
                self.raises(BadRanks, value, heap_of_ranks, 2, value)

    def all_heaps(self):
        """All heaps of two places."""
        for x, y, z in itertools.product(range(9), repeat=3):
            if x + y <= 8 and y + z <= 8:
                yield heap_of(2, [(0, 0)] * x + [(0, 1)] * y + [(1, 1)] * z)

    def test_dicts_that_are_nearly_ranks(self):
        self.tells(True, are_ranks, 3, RANKS)
        nearly = [{key: number for key, number in RANKS.items() if key != left} for left in RANKS]
        nearly += [{**RANKS, key: RANKS[key] + 9} for key in RANKS]
        nearly += [{**RANKS, key: -1} for key in RANKS]
        nearly += [{**RANKS, key: odd} for key in RANKS for odd in (None, True, False, "1", [1], (1,), 10 ** 40)]
        nearly += [{**RANKS, key: 0} for key in [(0, 3), (1, 0), (-1, 0), (0, 0, 0), "a", None, 0, True, (), ("0", 0)]]
        nearly += [{(key if key != old else new): RANKS[key] for key in RANKS} for old, new in [
            ((0, 0), (False, 0)), ((0, 1), (0, True)), ((2, 2), (2, 3)), ((0, 2), "a"), ((1, 2), (2, 1)), ((1, 1), (True, True)),
        ]]
        for value in nearly:
            self.tells(False, are_ranks, 3, value)
            self.raises(BadRanks, value, heap_of_ranks, 3, value)

    def test_any_value(self):
        for odd in odd_values():
            wanted = shown(odd) == "{(0, 0): 0}"
            self.tells(wanted, are_ranks, 1, odd)
            if wanted:
                self.assertEqual(heap_of_ranks(1, odd), ())
            else:
                self.raises(BadRanks, odd, heap_of_ranks, 1, odd)
        for value in (list(RANKS), tuple(RANKS.items()), nested(dict, 200), {RANKS[0, 0]: RANKS}):
            self.tells(False, are_ranks, 3, value)

    def test_errors(self):
        for places in (0, 18, True, None, "3", [3], -1, 10 ** 40):
            self.raises(BadPlaces, places, ranks_of, places, None)
            self.raises(BadPlaces, places, are_ranks, places, None)
            self.raises(BadPlaces, places, heap_of_ranks, places, None)
            self.raises(BadPlaces, places, looks_enough, places, None)
            self.raises(BadPlaces, places, tells_apart, places, None, None, None)
        for wrong in (None, [], [(0, 1, 1)], ((0, 3, 1),), ((0, 0, 9),), ((1, 1, 1), (0, 0, 1)), {}, "a"):
            self.raises(BadHeap, wrong, ranks_of, 3, wrong)


class TestLooks(Checks):
    def test_all_stretches_are_enough(self):
        rng = random.Random(113)
        for places in range(1, 18):
            looks = stretches(places)
            self.assertIsNone(looks_enough(places, looks))
            rng.shuffle(looks)
            self.assertIsNone(looks_enough(places, looks + looks[:3]))

    def test_one_look_less_is_not_enough(self):
        for places in range(1, 18):
            for left in stretches(places):
                looks = [stretch for stretch in stretches(places) if stretch != left]
                self.two_heaps_alike(places, looks)

    def test_any_looks(self):
        rng = random.Random(114)
        for places in range(1, 6):
            self.two_heaps_alike(places, [])
            for _ in range(20):
                looks = [stretch for stretch in stretches(places) if rng.randrange(4)] * 2
                if set(looks) == set(stretches(places)):
                    self.assertIsNone(looks_enough(places, looks))
                else:
                    self.two_heaps_alike(places, looks)

    def two_heaps_alike(self, places, looks):
        told = looks_enough(places, looks)
        self.assertIs(type(told), tuple)
        one, other = told
        self.assertNotEqual(one, other)
        for told_heap in told:
            self.tells(True, is_heap, places, told_heap)
        for a, b in looks:
            self.assertEqual(bars_covering(places, one, a, b), bars_covering(places, other, a, b))
        self.tells(False, tells_apart, places, looks, one, other)
        self.tells(True, tells_apart, places, stretches(places), one, other)
        self.assertEqual(looks_enough(places, list(looks)), told)

    def test_tells_apart(self):
        rng = random.Random(115)
        for places in range(1, 9):
            for _ in range(20):
                one, other = random_heap(rng, places, 3), random_heap(rng, places, 3)
                looks = [rng.choice(stretches(places)) for _ in range(rng.randrange(4))]
                first, second = ranks_of(places, one), ranks_of(places, other)
                self.tells(any(first[look] != second[look] for look in looks), tells_apart, places, looks, one, other)
                self.tells(one != other, tells_apart, places, stretches(places), one, other)
                self.tells(False, tells_apart, places, looks, one, one)

    def test_errors(self):
        for wrong in [
            None, (), ((0, 1),), "ab", {}, {(0, 1): 1}, 7, [None], [[0, 1]], [(0, 3)], [(-1, 0)], [(1, 0)], [(0,)], [(0, 1, 1)],
            [(0, True)], [(False, 1)], [(0, 1), (0, None)], [(0, "1")], [()], [{}], [(0, 10 ** 40)], nested(list, 200),
        ]:
            self.raises(BadLooks, wrong, looks_enough, 3, wrong)
            self.raises(BadLooks, wrong, tells_apart, 3, wrong, None, None)
        for wrong in (None, [], [(0, 1, 1)], ((0, 3, 1),), ((0, 0, 9),), ((1, 1, 1), (0, 0, 1)), {}, "a"):
            self.raises(BadHeap, wrong, tells_apart, 3, [(0, 1)], wrong, None)
            self.raises(BadHeap, wrong, tells_apart, 3, [(0, 1)], H, wrong)


if __name__ == "__main__":
    unittest.main()
