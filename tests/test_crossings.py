"""[16], stage 17: crossings between fellows, their sums, one behind another, and a base of all of them."""

import itertools
import random
import unittest

from staybars.bars import bars_of
from staybars.crossings import all_crossings, bars_cross, behind_crossing, crossing_width, is_crossing, is_one_to_one, is_onto
from staybars.crossings import same_crossing, sum_crossing
from staybars.errors import BadCrossing, BadHeap, BadLine, BadNumber, BadPair, BadSigns, BadStretch, TooMany
from staybars.lines import is_line
from tests.drawn import drawn, flat, nought_table, random_signs, rank_of_rows, same_rows, stretches
from tests.helpers import Checks, odd_values
from tests.rooms import PRIMES, add, all_entries, lead, random_heap, random_line, random_table, scale

ONE = (2, (1, 1), ((">", ((1,),)),))
OTHER = (2, (1, 0), ((">", ((),)),))
CROSSING = (((1,),), ((),))


def goes_along(one, other, tables):
    """Whether tables go along with all maps, looked at for each entry."""
    p = one[0]
    for k, (sign, table) in enumerate(one[2]):
        here, there = (k, k + 1) if sign == ">" else (k + 1, k)
        for x in all_entries(p, one[1][here]):
            first = lead(p, other[1][there], tables[there], lead(p, one[1][there], table, x))
            second = lead(p, other[1][there], other[2][k][1], lead(p, other[1][here], tables[here], x))
            if first != second:
                return False
    return True


def all_tuples(one, other):
    """All tuples of tables from one's rooms to other's."""
    p = one[0]
    return itertools.product(*[list(itertools.product(all_entries(p, b), repeat=a)) for a, b in zip(one[1], other[1])])


def base_width_by_numbers(one, other):
    """How many a base of the crossings has, by all that must hold for the numbers in the tables."""
    p, widths, maps = one
    spot = {}
    for k, (a, b) in enumerate(zip(widths, other[1])):
        for i, j in itertools.product(range(a), range(b)):
            spot[k, i, j] = len(spot)
    rows = []
    for k, (sign, table) in enumerate(maps):
        here, there = (k, k + 1) if sign == ">" else (k + 1, k)
        for i, j in itertools.product(range(widths[here]), range(other[1][there])):
            row = [0] * len(spot)
            for m in range(widths[there]):
                row[spot[there, m, j]] += table[i][m]
            for m in range(other[1][here]):
                row[spot[here, i, m]] -= other[2][k][1][m][j]
            rows.append([number % p for number in row])
    return len(spot) - rank_of_rows(p, rows)


def random_crossing(rng, one, other):
    """A sum of crossings, each taken times some number."""
    p = one[0]
    total = tuple(nought_table(a, b) for a, b in zip(one[1], other[1]))
    for crossing in all_crossings(one, other):
        number = rng.randrange(p)
        total = tuple(
            tuple(add(p, x, scale(p, number, y)) for x, y in zip(first, second)) for first, second in zip(total, crossing)
        )
    return total


def drawn_fellows(seed, often, many=2, most=3, longest=5, signs=None):
    """Lines of known bars with the same p and signs."""
    rng = random.Random(seed)
    for number in range(often):
        p, places = PRIMES[number % 4], rng.randrange(1, longest + 1)
        told = signs[:places - 1] if signs else random_signs(rng, places)
        yield rng, told, [drawn(rng, p, random_heap(rng, places, most), told) for _ in range(many)]


def cross_by_places(signs, first, second):
    """Whether a bar crosses into another one, place by place."""
    shared = [k for k in range(len(signs) + 1) if first[0] <= k <= first[1] and second[0] <= k <= second[1]]
    if not shared:
        return False
    for inside, outside in ((shared[0], shared[0] - 1), (shared[-1], shared[-1] + 1)):
        if 0 <= outside <= len(signs):
            away = (signs[min(inside, outside)] == ">") == (outside > inside)
            if first[0] <= outside <= first[1] and not away:
                return False
            if second[0] <= outside <= second[1] and away:
                return False
    return True


class TestIsCrossing(Checks):
    def test_all_tuples_of_small_lines(self):
        rng = random.Random(191)
        told = []
        for p, widths, others in [
            (2, (1, 1), (1, 1)), (2, (2, 1), (1, 2)), (2, (1, 2), (2, 1)), (3, (1, 1), (1, 1)), (2, (1, 0, 1), (1, 1, 1)), (2, (1, 1, 1), (0, 1, 1)),
            (5, (1, 1), (1, 1)), (2, (0, 1), (1, 2)), (3, (2,), (1,)), (7, (1,), (1,)),
        ]:
            for _ in range(16):
                one = random_line(rng, p, widths)
                other = self.fellow(rng, one, others)
                for value in all_tuples(one, other):
                    wanted = goes_along(one, other, value)
                    told.append(wanted)
                    self.tells(wanted, is_crossing, one, other, value)
        self.assertTrue(200 < sum(told) < len(told) - 200)

    def fellow(self, rng, line, widths):
        maps = []
        for k, (sign, _) in enumerate(line[2]):
            a, b = (k, k + 1) if sign == ">" else (k + 1, k)
            maps.append((sign, random_table(rng, line[0], widths[a], widths[b])))
        return line[0], widths, tuple(maps)

    def test_of_drawn_lines_with_one_number_turned(self):
        for rng, _, (one, other) in drawn_fellows(192, 40):
            crossing = random_crossing(rng, one, other)
            self.tells(True, is_crossing, one, other, crossing)
            spots = [(k, i, j) for k, table in enumerate(crossing) for i, row in enumerate(table) for j in range(len(row))]
            for k, i, j in spots[:12]:
                row = crossing[k][i]
                turned = row[:j] + ((row[j] + 1) % one[0],) + row[j + 1:]
                table = crossing[k][:i] + (turned,) + crossing[k][i + 1:]
                value = crossing[:k] + (table,) + crossing[k + 1:]
                self.tells(goes_along(one, other, value), is_crossing, one, other, value)

    def test_any_value(self):
        self.tells(True, is_crossing, ONE, OTHER, CROSSING)
        for value in odd_values() + [
            list(CROSSING), CROSSING[:1], CROSSING + CROSSING, ([(1,)], ((),)), (([1],), ((),)), (((True,),), ((),)), (((1,),), ()),
            (((1,),), ((0,),)), (((2,),), ((),)), (((-1,),), ((),)), (((1, 0),), ((),)), (((1,), (1,)), ((),)), "ab", {}, (None, ((),)),
            (((1,),), None), (((1,),), {}), (((1,),), [()]), {0: CROSSING}, (((1,),), ((), ())), (CROSSING,),
        ]:
            self.tells(False, is_crossing, ONE, OTHER, value)
        self.tells(False, is_crossing, OTHER, ONE, (((1,),), ()))
        for odd in odd_values():
            self.tells(odd == ((),), is_crossing, (2, (0,), ()), (2, (0,), ()), odd)
            self.tells(odd in (((), ()), ((),)) and len(odd) == 2, is_crossing, (2, (0, 0), ((">", ()),)), (2, (0, 3), ((">", ()),)), odd)

    def test_one_to_one_and_onto_by_entries(self):
        told = []
        for rng, _, (one, other) in drawn_fellows(193, 100, 2, 2, 3):
            crossing = random_crossing(rng, one, other)
            p = one[0]
            led = [[lead(p, b, table, x) for x in all_entries(p, a)] for a, b, table in zip(one[1], other[1], crossing)]
            first = all(len(set(held)) == len(held) for held in led)
            second = all(len(set(held)) == p ** b for held, b in zip(led, other[1]))
            told.append((first, second))
            self.tells(first, is_one_to_one, one, other, crossing)
            self.tells(second, is_onto, one, other, crossing)
        for wanted in itertools.product((True, False), repeat=2):
            self.assertIn(wanted, told)

    def test_one_to_one_and_onto_of_rooms_0_wide(self):
        none, two = (3, (0,), ()), (3, (2,), ())
        self.tells(True, is_one_to_one, none, two, ((),))
        self.tells(False, is_onto, none, two, ((),))
        self.tells(False, is_one_to_one, two, none, (((), ()),))
        self.tells(True, is_onto, two, none, (((), ()),))
        for call in (is_one_to_one, is_onto):
            self.tells(True, call, none, none, ((),))
            self.tells(True, call, two, two, (((1, 2), (0, 2)),))
            self.tells(False, call, two, two, (((1, 2), (2, 1)),))


class TestMade(Checks):
    def test_same(self):
        for rng, _, (one, other) in drawn_fellows(194, 20):
            self.assertEqual(same_crossing(one), tuple(same_rows(width) for width in one[1]))
            self.tells(True, is_crossing, one, one, same_crossing(one))
            crossing = random_crossing(rng, one, other)
            self.assertEqual(behind_crossing(one, one, other, same_crossing(one), crossing), crossing)
            self.assertEqual(behind_crossing(one, other, other, crossing, same_crossing(other)), crossing)

    def test_behind_by_entries(self):
        for rng, _, (one, middle, other) in drawn_fellows(195, 40, 3):
            first, second = random_crossing(rng, one, middle), random_crossing(rng, middle, other)
            told = behind_crossing(one, middle, other, first, second)
            self.tells(True, is_crossing, one, other, told)
            p = one[0]
            for k, width in enumerate(one[1]):
                for x in same_rows(width) + (tuple(rng.randrange(p) for _ in range(width)),):
                    between = lead(p, middle[1][k], first[k], x)
                    self.assertEqual(lead(p, other[1][k], told[k], x), lead(p, other[1][k], second[k], between))

    def test_sums_by_numbers(self):
        for rng, _, (one, other) in drawn_fellows(196, 30):
            p = one[0]
            first, second = (random_crossing(rng, one, other) for _ in range(2))
            for number in (0, 1, -1, p, p + 1, -10 ** 40 - 1, 10 ** 40 + 3, rng.randrange(p), 10 ** 4500 + 1):
                told = sum_crossing(one, other, first, second, number)
                self.tells(True, is_crossing, one, other, told)
                self.assertEqual(flat(told), [(x + number * y) % p for x, y in zip(flat(first), flat(second))])
                self.assertEqual([len(table) for table in told], list(one[1]))
            self.assertEqual(sum_crossing(one, other, first, second, p), first)

    def test_wrong_numbers(self):
        for number in (None, True, False, "1", (1,), [1], {}, b"1", "", ()):
            self.raises(BadNumber, number, sum_crossing, ONE, OTHER, CROSSING, CROSSING, number)


class TestBarsCross(Checks):
    def test_place_by_place(self):
        for places in range(1, 6):
            for signs in itertools.product("<>", repeat=places - 1):
                for first, second in itertools.product(stretches(places), repeat=2):
                    self.tells(cross_by_places(signs, first, second), bars_cross, signs, first, second)

    def test_a_base_between_lines_of_one_bar(self):
        rng = random.Random(197)
        for places in range(1, 5):
            for signs in itertools.product("<>", repeat=places - 1):
                for first, second in itertools.product(stretches(places), repeat=2):
                    p = rng.choice(PRIMES)
                    one, other = (drawn(rng, p, (bar + (1,),), signs) for bar in (first, second))
                    crossings = all_crossings(one, other)
                    self.assertEqual(len(crossings), int(bars_cross(signs, first, second)))
                    self.assertEqual(base_width_by_numbers(one, other), len(crossings))

    def test_long_signs(self):
        rng = random.Random(198)
        for _ in range(300):
            signs = random_signs(rng, 17)
            first, second = rng.choice(stretches(17)), rng.choice(stretches(17))
            self.tells(cross_by_places(signs, first, second), bars_cross, signs, first, second)

    def test_errors(self):
        wrong = [None, True, 0, ">", [">"], (">",) * 17, (">", "="), (None,), {}, (">", True), "><", ("",), ((">",),), ("><",), 10 ** 40]
        for signs in wrong:
            self.raises(BadSigns, signs, bars_cross, signs, None, None)
            self.raises(BadSigns, signs, crossing_width, signs, None, None)
        self.tells(True, bars_cross, (">",) * 16, (0, 16), (0, 16))
        for bar in (None, True, (0,), (0, 2), (-1, 0), (1, 0), [0, 1], (0, True), (False, 1), (0, 1, 1), ("0", 1), (0, 10 ** 40), {}, "01", ()):
            self.raises(BadStretch, bar, bars_cross, (">",), bar, None)
            self.raises(BadStretch, bar, bars_cross, (">",), (0, 1), bar)


class TestAllCrossings(Checks):
    def test_as_many_as_told_and_unlike(self):
        for rng, signs, (one, other) in drawn_fellows(199, 100, 2, 3, 6):
            p = one[0]
            crossings = all_crossings(one, other)
            self.assertEqual(len(crossings), base_width_by_numbers(one, other))
            for crossing in crossings:
                self.tells(True, is_crossing, one, other, crossing)
            self.assertEqual(rank_of_rows(p, [flat(crossing) for crossing in crossings]), len(crossings))
            self.assertEqual(all_crossings(one, other), crossings)

    def test_width_by_the_bars(self):
        rng = random.Random(200)
        for number in range(60):
            places = 1 + number % 9
            signs, one, other = random_signs(rng, places), random_heap(rng, places, 4), random_heap(rng, places, 4)
            wanted = sum(cross_by_places(signs, x, y) for x in bars_of(places, one) for y in bars_of(places, other))
            self.assertEqual(crossing_width(signs, one, other), wanted)
            if wanted <= 300:
                p = PRIMES[number % 4]
                self.assertEqual(len(all_crossings(drawn(rng, p, one, signs), drawn(rng, p, other, signs))), wanted)

    def test_each_is_in_one_way_a_sum_of_the_base(self):
        for rng, signs, (one, other) in drawn_fellows(201, 80, 2, 2, 3):
            p, base = one[0], all_crossings(one, other)
            if len(base) <= 3 and sum(a * b for a, b in zip(one[1], other[1])) <= (9 if p == 2 else 5 if p == 3 else 3):
                sums = set()
                for numbers in itertools.product(range(p), repeat=len(base)):
                    total = tuple(nought_table(a, b) for a, b in zip(one[1], other[1]))
                    for number, crossing in zip(numbers, base):
                        total = sum_crossing(one, other, total, crossing, number)
                    sums.add(total)
                self.assertEqual(len(sums), p ** len(base))
                self.assertEqual(sums, {value for value in all_tuples(one, other) if goes_along(one, other, value)})

    def test_none_but_nought(self):
        for one, other in [
            ((2, (0,), ()), (2, (3,), ())), ((3, (1, 1), ((">", ((0,),)),)), (3, (0, 0), ((">", ()),))),
            ((3, (1, 0), ((">", ((),)),)), (3, (1, 1), ((">", ((1,),)),))),
        ]:
            self.assertEqual(all_crossings(one, other), [])

    def test_300_and_301(self):
        rng = random.Random(202)
        for p in (2, 7):
            for many, last in ((300, 4), (301, 5)):
                one = tuple((k, k, often) for k, often in enumerate((8, 8, 8, 8, 8, 1)))
                other = tuple((k, k, often) for k, often in enumerate((8, 8, 8, 8, 5, last)))
                signs = random_signs(rng, 6)
                self.assertEqual(crossing_width(signs, one, other), many)
                lines = drawn(rng, p, one, signs), drawn(rng, p, other, signs)
                if many == 300:
                    crossings = all_crossings(*lines)
                    self.assertEqual(len(crossings), 300)
                    self.assertTrue(all(is_crossing(*lines, crossing) for crossing in crossings))
                    self.assertEqual(rank_of_rows(p, [flat(crossing) for crossing in crossings]), 300)
                else:
                    self.raises(TooMany, 300, all_crossings, *lines)
        wide = (2, (8,) * 17, ((">", same_rows(8)),) * 16)
        self.assertEqual(len(all_crossings(wide, wide)), 64)
        apart = (2, (8,) * 17, ((">", nought_table(8, 8)),) * 16)
        self.raises(TooMany, 300, all_crossings, apart, apart)

    def test_wrong_heaps(self):
        for heap in odd_values() + [((0, 2, 1),), ((0, 1, 9),), [(0, 1, 1)], ((1, 1, 1), (0, 1, 1)), ((0, 1, True),), ((0, 1, 0),)]:
            if heap not in ((), ((0, 0, 1),)):
                self.raises(BadHeap, heap, crossing_width, (">",), heap, None)
                self.raises(BadHeap, heap, crossing_width, (">",), (), heap)
        self.assertEqual([crossing_width((), (), ()), crossing_width((">",) * 16, ((0, 16, 8),), ((0, 16, 8),))], [0, 64])


class TestErrors(Checks):
    def calls(self):
        return [
            lambda one, other: is_crossing(one, other, None), lambda one, other: is_one_to_one(one, other, None),
            lambda one, other: is_onto(one, other, None), lambda one, other: sum_crossing(one, other, None, None, None), all_crossings,
            lambda one, other: behind_crossing(one, other, ONE, None, None), lambda one, other: behind_crossing(ONE, one, other, None, None),
        ]

    def test_no_lines(self):
        for odd in odd_values():
            if not is_line(odd):
                self.raises(BadLine, odd, same_crossing, odd)
                for call in self.calls()[:-2]:
                    self.raises(BadLine, odd, call, odd, None)
                    self.raises(BadLine, odd, call, ONE, odd)
                self.raises(BadLine, odd, behind_crossing, odd, None, None, None, None)
                self.raises(BadLine, odd, behind_crossing, ONE, odd, None, None, None)
                self.raises(BadLine, odd, behind_crossing, ONE, (3, (1,), ()), odd, None, None)

    def test_no_fellows(self):
        strangers = [(3, (1, 1), ((">", ((1,),)),)), (2, (1, 1), (("<", ((1,),)),)), (2, (1,), ()), (2, (1, 1, 0), ((">", ((1,),)), (">", ((),))))]
        for stranger in strangers:
            for call in self.calls()[:-1]:
                self.raises_tuple(BadPair, (ONE, stranger), call, ONE, stranger)
            self.raises_tuple(BadPair, (ONE, stranger), behind_crossing, ONE, stranger, OTHER, None, None)
            self.raises_tuple(BadPair, (OTHER, stranger), behind_crossing, ONE, OTHER, stranger, None, None)
            self.raises_tuple(BadPair, (ONE, stranger), behind_crossing, ONE, stranger, stranger, None, None)

    def test_no_crossings(self):
        for odd in odd_values() + [CROSSING[:1], list(CROSSING), (((1,),), ((1,),)), (((True,),), ((),))]:
            self.raises(BadCrossing, odd, is_one_to_one, ONE, OTHER, odd)
            self.raises(BadCrossing, odd, is_onto, ONE, OTHER, odd)
            self.raises(BadCrossing, odd, sum_crossing, ONE, OTHER, odd, None, None)
            self.raises(BadCrossing, odd, sum_crossing, ONE, OTHER, CROSSING, odd, None)
            self.raises(BadCrossing, odd, behind_crossing, ONE, OTHER, OTHER, odd, None)
            self.raises(BadCrossing, odd, behind_crossing, ONE, OTHER, OTHER, CROSSING, odd)


if __name__ == "__main__":
    unittest.main()
