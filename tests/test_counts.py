"""[18], stage 27: how many squares, parts, lines, maps and heaps there are, held against all of them."""

import itertools
import math
import random
import unittest

from staybars.bars import is_heap, widths_of
from staybars.counts import count_parts, count_squares, group_of, heaps_with, lines_with, maps_with
from staybars.crossings import crossing_width
from staybars.errors import BadHeap, BadJoining, BadLine, BadPair, BadPrime, BadSign, BadSigns, BadWidth, BadWidths, TooMany
from staybars.flags import heap_of_line
from staybars.joints import all_joinings, joining_at, line_with
from tests.drawn import drawn, random_signs
from tests.forths import all_small_heaps
from tests.helpers import Checks, odd_values
from tests.rooms import PRIMES, all_bases, all_entries, random_heap
from tests.test_crossings import goes_along


def squares(p, width):
    return itertools.product(all_entries(p, width), repeat=width)


def has_back(p, width, table):
    """Whether a square leads no two entries to one."""
    led = {tuple(sum(x[i] * table[i][j] for i in range(width)) % p for j in range(width)) for x in all_entries(p, width)}
    return len(led) == p ** width


def all_lines(p, widths, signs):
    """All lines of these widths and signs."""
    tables = []
    for k, sign in enumerate(signs):
        a, b = (widths[k], widths[k + 1]) if sign == ">" else (widths[k + 1], widths[k])
        tables.append(list(itertools.product(all_entries(p, b), repeat=a)))
    for chosen in itertools.product(*tables):
        yield p, tuple(widths), tuple(zip(signs, chosen))


def heaps_by_bars(widths):
    """All heaps of these widths: for each stretch, ascending, each number that the places can still bear."""
    places = len(widths)
    stretches = [(a, b) for a in range(places) for b in range(a, places)]

    def go(at, left):
        if at == len(stretches):
            if not any(left):
                yield ()
            return
        a, b = stretches[at]
        for often in range(min(left[a:b + 1]) + 1):
            rest = [n - often if a <= k <= b else n for k, n in enumerate(left)]
            for tail in go(at + 1, rest):
                yield (((a, b, often),) if often else ()) + tail
    return sorted(go(0, list(widths)))


class TestSquaresAndParts(Checks):
    def test_all_squares(self):
        for p, width in [(2, 0), (2, 1), (2, 2), (2, 3), (3, 0), (3, 1), (3, 2), (5, 1), (5, 2), (7, 0), (7, 1), (7, 2)]:
            self.assertEqual(count_squares(p, width), sum(has_back(p, width, table) for table in squares(p, width)))

    def test_all_parts(self):
        for p, width in [(2, 0), (2, 1), (2, 2), (2, 3), (2, 4), (3, 1), (3, 2), (3, 3), (5, 2), (7, 2)]:
            bases = all_bases(p, width)
            for few in range(9):
                self.assertEqual(count_parts(p, width, few), sum(len(base) == few for base in bases))

    def test_wide_rooms(self):
        for p in PRIMES:
            for width in range(9):
                wanted = 1
                for ahead in range(width):
                    wanted *= p ** width - p ** ahead
                self.assertEqual(count_squares(p, width), wanted)
                for few in range(width + 1):
                    # A part and a rest of the room: each square leads one part to one of this width.
                    apart = count_squares(p, few) * count_squares(p, width - few) * p ** (few * (width - few))
                    self.assertEqual(count_parts(p, width, few) * apart, count_squares(p, width))
                    self.assertEqual(count_parts(p, width, few), count_parts(p, width, width - few))
                self.assertEqual([count_parts(p, width, 0), count_parts(p, width, width)], [1, 1])
        self.assertEqual([count_parts(2, 2, 3), count_parts(7, 0, 8), count_parts(5, 7, 8)], [0, 0, 0])

    def test_errors(self):
        for p in (None, True, 4, 1, 11, "2", [2], 10 ** 40):
            self.raises(BadPrime, p, count_squares, p, None)
            self.raises(BadPrime, p, count_parts, p, None, None)
        for width in (None, True, False, -1, 9, "2", [2], 10 ** 40):
            self.raises(BadWidth, width, count_squares, 2, width)
            self.raises(BadWidth, width, count_parts, 2, width, None)
            self.raises(BadWidth, width, count_parts, 2, 8, width)


class TestGroups(Checks):
    def test_all_squares_that_go_along(self):
        rng = random.Random(471)
        seen = set()
        for number in range(60):
            p, places = (2, 2, 3)[number % 3], 1 + number % 3
            signs = random_signs(rng, places)
            heap = random_heap(rng, places, 2)
            if p ** sum(width * width for width in widths_of(places, heap)) < 4500:
                line = drawn(rng, p, heap, signs)
                rooms = [[table for table in squares(p, width) if has_back(p, width, table)] for width in line[1]]
                wanted = sum(goes_along(line, line, tables) for tables in itertools.product(*rooms))
                seen.add(wanted)
                self.assertEqual(group_of(p, heap, signs), wanted)
        self.assertGreater(len(seen), 6)

    def test_by_the_product(self):
        rng = random.Random(472)
        for number in range(80):
            p, places = PRIMES[number % 4], 1 + number % 17
            signs, heap = random_signs(rng, places), random_heap(rng, places)
            oftens = [often for _, _, often in heap]
            beyond = crossing_width(signs, heap, heap) - sum(often * often for often in oftens)
            self.assertEqual(group_of(p, heap, signs), math.prod(count_squares(p, often) for often in oftens) * p ** beyond)

    def test_whole_numbers_of_many_digits(self):
        rng = random.Random(473)
        for p in PRIMES:
            signs = random_signs(rng, 17)
            for heap in (((0, 16, 8),), tuple((k, k, 8) for k in range(17))):
                told = group_of(p, heap, signs), lines_with(p, heap, signs)
                self.assertEqual([type(number) for number in told], [int, int])
                self.assertEqual(told[0] * told[1], count_squares(p, 8) ** 17)
            self.assertEqual(group_of(p, tuple((k, k, 8) for k in range(17)), signs), count_squares(p, 8) ** 17)
            self.assertEqual(lines_with(p, tuple((k, k, 8) for k in range(17)), signs), 1)
            self.assertEqual(group_of(p, ((0, 16, 8),), signs), count_squares(p, 8))
        self.assertEqual([group_of(3, (), ()), lines_with(3, (), ())], [1, 1])


class TestLines(Checks):
    def test_all_lines_of_small_widths(self):
        rng = random.Random(474)
        for p, widths in [
            (2, (0,)), (3, (2,)), (2, (1, 1)), (2, (2, 2)), (2, (2, 1, 1)), (2, (1, 2, 1)), (2, (2, 2, 1)), (2, (1, 1, 1, 1)), (3, (1, 1, 1)), (3, (2, 1)),
            (5, (1, 2)), (7, (1, 1)), (2, (2, 0, 2)), (2, (1, 2, 2)), (2, (3, 2)),
        ]:
            for signs in {random_signs(rng, len(widths)) for _ in range(4)}:
                found = {}
                for line in all_lines(p, widths, signs):
                    heap = heap_of_line(line)
                    found[heap] = found.get(heap, 0) + 1
                heaps = heaps_with(widths)
                self.assertEqual(sorted(found), heaps)
                for heap in heaps:
                    self.assertEqual(lines_with(p, heap, signs), found[heap])

    def test_over_all_heaps_they_are_all_lines(self):
        rng = random.Random(475)
        for number in range(40):
            p, widths = PRIMES[number % 4], [rng.randrange(4) for _ in range(1 + number % 5)]
            signs = random_signs(rng, len(widths))
            heaps = heaps_with(tuple(widths))
            numbers = sum(a * b for a, b in zip(widths, widths[1:]))
            self.assertEqual(sum(lines_with(p, heap, signs) for heap in heaps), p ** numbers)

    def test_errors(self):
        for call in (group_of, lines_with):
            for p in (None, True, 4, "2", [2]):
                self.raises(BadPrime, p, call, p, None, None)
            for signs in (None, True, ">", [">"], ("=",), (">",) * 17, (">", None), {}):
                self.raises(BadSigns, signs, call, 2, None, signs)
            for heap in odd_values() + [((0, 2, 1),), ((0, 1, 9),), [(0, 1, 1)]]:
                if heap not in ((), ((0, 0, 1),)):
                    self.raises(BadHeap, heap, call, 2, heap, (">",))
        self.assertEqual(lines_with(2, ((0, 0, 1), (0, 1, 1)), (">",)), 3)


class TestHeaps(Checks):
    def test_all_heaps(self):
        for widths in [
            (0,), (8,), (1, 1), (2, 2), (3, 0, 2), (1, 2, 1), (2, 3, 2), (1, 1, 1, 1), (2, 2, 2), (0, 0, 0), (3, 1, 2, 1), (1, 2, 0, 2, 1), (8, 8), (2, 2, 2, 2),
            (1,) * 6, (0,) * 17, (1,) + (0,) * 15 + (1,),
        ]:
            told = heaps_with(widths)
            self.assertEqual(told, heaps_by_bars(widths))
            for heap in told:
                self.assertTrue(is_heap(len(widths), heap))
                self.assertEqual(widths_of(len(widths), heap), widths)
                self.assertTrue(all(type(pile) is tuple for pile in heap))

    def test_among_all_small_heaps(self):
        for places in (1, 2, 3):
            found = {}
            for heap in all_small_heaps(places, 3):
                found.setdefault(widths_of(places, heap), []).append(heap)
            for widths, heaps in found.items():
                if sum(widths) <= 3:
                    self.assertEqual(heaps_with(widths), sorted(heaps))

    def test_just_1000_and_1001(self):
        for widths in ((1, 4, 5, 5, 2), (7, 7, 0, 4, 4, 0, 4, 4, 0, 4, 4)):
            told = heaps_with(widths)
            self.assertEqual([len(told), len(set(told)), told], [1000, 1000, sorted(told)])
            self.assertTrue(all(widths_of(len(widths), heap) == widths for heap in told))
        for widths in ((6, 6, 0, 1, 4, 3, 0, 1, 4, 4), (8,) * 17, (8, 8, 8, 8), (1,) * 17, (1,) * 12):
            self.raises(TooMany, 1000, heaps_with, widths)
        self.assertEqual([len(heaps_with(widths)) for widths in ((6, 6), (1, 4, 3), (1, 4, 4), (1,) * 10)], [7, 11, 13, 512])

    def test_no_widths(self):
        for widths in odd_values() + [(1, 9), (True, 1), [1, 1], (1,) * 18, ("1",), (1, None), (-1,)]:
            if widths not in ((0,), (1,), (0, 0), (0, 1), (1, 0), (0, 1, 1)) or type(widths) is list or any(type(n) is bool for n in widths):
                self.raises(BadWidths, widths, heaps_with, widths)


class TestMaps(Checks):
    def test_all_tables_between_small_halves(self):
        rng = random.Random(476)
        looked = 0
        for number in range(80):
            p = (2, 3, 2, 5)[number % 4]
            places, more = rng.randrange(1, 4), rng.randrange(1, 4)
            left = drawn(rng, p, random_heap(rng, places, 2), random_signs(rng, places))
            right = drawn(rng, p, random_heap(rng, more, 2), random_signs(rng, more))
            for sign in "><":
                a, b = (left[1][-1], right[1][0]) if sign == ">" else (right[1][0], left[1][-1])
                if p ** (a * b) <= 125:
                    found = {}
                    for table in itertools.product(all_entries(p, b), repeat=a):
                        line = line_with(left, right, sign, table)
                        made = tuple(pile for pile in joining_at(line, places - 1))
                        found[made] = found.get(made, 0) + 1
                    joinings = all_joinings(left, right)
                    self.assertEqual(sorted(found), joinings)
                    for joining in joinings:
                        looked += 1
                        self.assertEqual(maps_with(left, right, sign, joining), found[joining])
        self.assertGreater(looked, 150)

    def test_wide_halves(self):
        rng = random.Random(477)
        for p in PRIMES:
            left = drawn(rng, p, tuple((k, 7, 1) for k in range(8)), random_signs(rng, 8))
            right = drawn(rng, p, ((0, 0, 4), (0, 8, 4)), random_signs(rng, 9))
            for sign in "><":
                self.assertEqual(maps_with(left, right, sign, ()), 1)
            one, other = (p, (8,), ()), (p, (8,), ())
            told = [maps_with(one, other, ">", ((0, 1, few),) if few else ()) for few in range(9)]
            self.assertEqual(sum(told), p ** 64)
            self.assertEqual(told[8], count_squares(p, 8))

    def test_errors(self):
        one, back = (5, (1,), ()), (2, (1,), ())
        for odd in odd_values():
            if odd not in ((5, (1,), ()), (2, (0,), ())):
                self.raises(BadLine, odd, maps_with, odd, None, None, None)
                self.raises(BadLine, odd, maps_with, one, odd, None, None)
        self.raises_tuple(BadPair, (one, back), maps_with, one, back, None, None)
        long = (5, (0,) * 17, ((">", ()),) * 16)
        self.raises_tuple(BadPair, (one, long), maps_with, one, long, None, None)
        for sign in (None, True, "=", "", [">"], "><"):
            self.raises(BadSign, sign, maps_with, one, one, sign, None)
        for value in (None, [], ((0, 1, 2),), ((0, 1, 0),), ((0, 1, True),), [(0, 1, 1)], ((0, 0, 1),), ((1, 1, 1),)):
            self.raises(BadJoining, value, maps_with, one, one, "<", value)
        self.assertEqual([maps_with(one, one, ">", ((0, 1, 1),)), maps_with(one, one, "<", ())], [4, 1])


if __name__ == "__main__":
    unittest.main()
