"""[12], stage 14: left halves that can be exchanged, what parts those that cannot, and the ways between."""

import itertools
import random
import unittest

from staybars.errors import BadLine, BadPair
from staybars.flags import ended_bars, heap_of_line, left_flag
from staybars.halves import are_exchangeable, is_way, parting_half, tells_halves, unlike_entry, way_between
from staybars.lines import is_line, put_together, signs_of
from tests.drawn import drawn, drawn_lines, flag_by_sets, heap_by_ranks, random_signs, same_rows, told_anew
from tests.helpers import Checks, odd_values
from tests.rooms import PRIMES, all_entries, lead, random_line, random_table, span

UP = (5, (1, 2), ((">", ((1, 0),)),))
DOWN = (5, (1, 2), (("<", ((0,), (1,))),))


def birthdays(line):
    """The birthday of each entry of the last room that isn't nought, by sets."""
    p, width = line[0], line[1][-1]
    held = [(day, span(p, width, part)) for day, part in flag_by_sets(line)]
    return {x: next(day for day, part in held if x in part) for x in all_entries(p, width) if any(x)}


def exchangeable_by_count(one, other):
    """Whether ended bars and birthdays of all entries are the same, both counted."""
    last = len(one[2])
    ended = [[pile for pile in heap_by_ranks(line) if pile[1] < last] for line in (one, other)]
    return ended[0] == ended[1] and birthdays(one) == birthdays(other)


def right_halves(rng, p, width, often):
    """The right half of one place, and some longer ones."""
    yield p, (width,), ()
    for _ in range(often):
        yield random_line(rng, p, [width] + [rng.randrange(4) for _ in range(rng.randrange(1, 4))])


def small_pairs(seed):
    """Two left halves to be held against one another, often nearly the same."""
    rng = random.Random(seed)
    for p, widest in [(2, 3), (3, 2), (5, 2), (7, 1)]:
        for number in range(30):
            places = rng.randrange(1, 5)
            one = random_line(rng, p, [rng.randrange(widest + 1) for _ in range(places)])
            kind = number % 5
            if kind == 0:
                other = told_anew(rng, one, [places - 1])
            elif kind == 1:
                other = told_anew(rng, one)
            elif kind == 2:
                other = one
            elif kind == 3 and places > 1:
                k = rng.randrange(places - 1)
                sign = one[2][k][0]
                a, b = (k, k + 1) if sign == ">" else (k + 1, k)
                bent = (sign, random_table(rng, p, one[1][a], one[1][b]))
                other = (p, one[1], one[2][:k] + (bent,) + one[2][k + 1:])
            else:
                other = random_line(rng, p, [rng.randrange(widest + 1) for _ in range(places - 1)] + [one[1][-1]])
            yield rng, one, other


class TestExchangeable(Checks):
    def test_by_counting(self):
        told = []
        for _, one, other in small_pairs(151):
            wanted = exchangeable_by_count(one, other)
            told.append(wanted)
            self.tells(wanted, are_exchangeable, one, other)
            self.tells(wanted, are_exchangeable, other, one)
        self.assertTrue(20 < sum(told) < len(told) - 20)

    def test_against_right_halves(self):
        for rng, one, other in small_pairs(152):
            p, width = one[0], one[1][-1]
            can = are_exchangeable(one, other)
            for right in right_halves(rng, p, width, 4):
                unlike = heap_of_line(put_together(one, right)) != heap_of_line(put_together(other, right))
                self.tells(unlike, tells_halves, one, other, right)
                self.assertFalse(can and unlike)
            self.parted(one, other, can)

    def parted(self, one, other, can):
        """The half that parts them, the entry that does, and the counted birthdays agree."""
        p, width = one[0], one[1][-1]
        half, entry = parting_half(one, other), unlike_entry(one, other)
        self.assertEqual(half is None, can)
        if half is not None:
            self.tells(True, is_line, half)
            self.assertIn((half[0], half[1], signs_of(half)), [(p, (width,), ()), (p, (width, 1), ("<",))])
            self.tells(True, tells_halves, one, other, half)
        first, second = birthdays(one), birthdays(other)
        self.assertEqual(entry is None, first == second)
        if entry is not None:
            self.assertIs(type(entry), tuple)
            self.assertNotEqual(first[entry], second[entry])
            self.assertFalse(can)

    def test_all_halves_of_two_places(self):
        for p, here, there in [(2, 1, 2), (2, 2, 1), (3, 1, 1), (2, 0, 2), (2, 2, 0)]:
            lines = [(p, (here, there), ((">", rows),)) for rows in itertools.product(all_entries(p, there), repeat=here)]
            lines += [(p, (here, there), (("<", rows),)) for rows in itertools.product(all_entries(p, here), repeat=there)]
            for one, other in itertools.product(lines, repeat=2):
                can = exchangeable_by_count(one, other)
                self.tells(can, are_exchangeable, one, other)
                self.parted(one, other, can)

    def test_like_bases_but_days_in_another_sequence(self):
        one = (2, (1, 2), ((">", ((1, 0),)),))
        other = (2, (1, 2), (("<", ((1,), (0,))),))
        self.assertEqual([birthdays(one)[1, 0], birthdays(one)[0, 1]], [birthdays(other)[1, 0], birthdays(other)[0, 1]])
        self.assertEqual([birthdays(one)[1, 1], birthdays(other)[1, 1]], [1, 0])
        self.tells(False, are_exchangeable, one, other)
        self.assertEqual(unlike_entry(one, other), (1, 1))
        self.parted(one, other, False)

    def test_unlike_in_ended_bars_alone(self):
        one = (3, (2, 1, 1), ((">", ((1,), (0,))), (">", ((1,),))))
        other = (3, (1, 1, 1), ((">", ((1,),)), (">", ((1,),))))
        self.assertEqual(left_flag(one), left_flag(other))
        self.assertNotEqual(ended_bars(one), ended_bars(other))
        self.tells(False, are_exchangeable, one, other)
        self.assertIsNone(unlike_entry(one, other))
        self.assertEqual(parting_half(one, other), (3, (1,), ()))

    def test_other_signs(self):
        one, other = (3, (1, 1), ((">", ((2,),)),)), (3, (1, 1), (("<", ((1,),)),))
        self.tells(True, are_exchangeable, one, other)
        self.assertEqual([parting_half(one, other), unlike_entry(one, other)], [None, None])
        self.tells(False, tells_halves, one, other, (3, (1, 2), (("<", ((1,), (2,))),)))
        self.tells(False, are_exchangeable, UP, DOWN)

    def test_of_known_bars(self):
        rng = random.Random(153)
        for p, heap, signs, line in drawn_lines(rng, 60, 5, 9):
            last = len(signs)
            other = told_anew(rng, line, [last])
            self.tells(True, are_exchangeable, line, other)
            self.assertEqual([unlike_entry(line, other), parting_half(line, other)], [None, None])
            turned_at_the_cut = told_anew(rng, line)
            same = left_flag(line) == left_flag(turned_at_the_cut)
            self.tells(same, are_exchangeable, line, turned_at_the_cut)
            self.tells(not same, tells_halves, line, turned_at_the_cut, parting_half(line, turned_at_the_cut) or (p, line[1][last:], ()))

    def test_of_other_bars(self):
        rng = random.Random(154)
        for p in PRIMES:
            signs = random_signs(rng, 4)
            one = drawn(rng, p, ((0, 1, 1), (1, 3, 1)), signs)
            for heap in (((0, 2, 1), (1, 3, 1)), ((0, 1, 1), (0, 3, 1)), ((1, 3, 1),), ((0, 1, 2), (1, 3, 1))):
                other = drawn(rng, p, heap, signs)
                self.tells(False, are_exchangeable, one, other)
                self.tells(True, tells_halves, one, other, parting_half(one, other))
                self.assertIsNone(way_between(one, other))

    def test_16_places_and_8_wide(self):
        rng = random.Random(155)
        for p in PRIMES:
            signs = random_signs(rng, 16)
            one = drawn(rng, p, tuple((a, 15, 1) for a in range(1, 16, 2)), signs)
            other = told_anew(rng, one, [15])
            self.assertEqual(one[1][-1], 8)
            self.tells(True, are_exchangeable, one, other)
            way = way_between(one, other)
            self.tells(True, is_way, one, other, way)
            swapped = told_anew(rng, one)
            if left_flag(swapped) != left_flag(one):
                self.assertIsNotNone(unlike_entry(one, swapped))
                self.tells(True, tells_halves, one, swapped, parting_half(one, swapped))
            right = drawn(rng, p, ((0, 0, 8),), ())
            self.tells(False, tells_halves, one, other, right)

    def test_0_wide_at_the_cut(self):
        one, other = (2, (1, 0), ((">", ((),)),)), (2, (2, 0), ((">", ((), ())),))
        self.tells(False, are_exchangeable, one, other)
        self.assertEqual([unlike_entry(one, other), parting_half(one, other)], [None, (2, (0,), ())])
        self.tells(True, are_exchangeable, (2, (0,), ()), (2, (0,), ()))
        self.assertEqual(way_between((2, (0,), ()), (2, (0,), ())), ((),))


class TestWays(Checks):
    def goes(self, one, other, tables):
        """Whether tables go along with all maps, looked at for each entry."""
        p = one[0]
        for k, (sign, table) in enumerate(one[2]):
            here, there = (k, k + 1) if sign == ">" else (k + 1, k)
            for x in all_entries(p, one[1][here]):
                first = lead(p, other[1][there], tables[there], lead(p, one[1][there], table, x))
                second = lead(p, other[1][there], other[2][k][1], lead(p, other[1][here], tables[here], x))
                if first != second:
                    return False
        return True

    def has_back(self, p, width, table):
        return len({lead(p, width, table, x) for x in all_entries(p, width)}) == p ** width

    def test_ways_by_entries(self):
        found = 0
        for _, one, other in small_pairs(156):
            if signs_of(one) == signs_of(other):
                way = way_between(one, other)
                self.assertEqual(way is not None, are_exchangeable(one, other))
                if way is not None:
                    found += 1
                    self.assertEqual(one[1], other[1])
                    self.assertTrue(self.goes(one, other, way))
                    self.assertTrue(all(self.has_back(one[0], width, table) for width, table in zip(one[1], way)))
                    self.assertEqual(way[-1], same_rows(one[1][-1]))
                    self.tells(True, is_way, one, other, way)
        self.assertGreater(found, 20)

    def test_ways_between_lines_of_known_bars(self):
        rng = random.Random(157)
        for p, heap, signs, line in drawn_lines(rng, 80, 6, 16):
            other = told_anew(rng, line, [len(signs)])
            way = way_between(line, other)
            self.tells(True, is_way, line, other, way)
            back = way_between(other, line)
            self.tells(True, is_way, other, line, back)
            self.assertEqual(way_between(line, other), way)

    def test_is_way_of_all_tuples_of_tables(self):
        for one, other in [
            ((2, (2, 1), ((">", ((1,), (0,))),)), (2, (2, 1), ((">", ((1,), (1,))),))), ((3, (1, 1), (("<", ((2,),)),)), (3, (1, 1), (("<", ((1,),)),))),
            ((2, (1, 2), ((">", ((1, 0),)),)), (2, (1, 2), ((">", ((1, 0),)),))), ((2, (0, 1), ((">", ()),)), (2, (0, 1), ((">", ()),))),
            ((3, (2, 0), (("<", ()),)), (3, (2, 0), (("<", ()),))),
        ]:
            p = one[0]
            squares = [list(itertools.product(all_entries(p, width), repeat=width)) for width in one[1]]
            for value in itertools.product(*squares):
                wanted = self.goes(one, other, value) and value[-1] == same_rows(one[1][-1])
                wanted = wanted and all(self.has_back(p, width, table) for width, table in zip(one[1], value))
                self.tells(wanted, is_way, one, other, value)

    def test_is_way_of_any_value(self):
        right = (((1,),), ((1, 0), (0, 1)))
        self.tells(True, is_way, UP, UP, right)
        for value in odd_values() + [
            list(right), right[:1], right + right, ([(1,)], right[1]), (((1,),), ((1, 0), [0, 1])), (((True,),), right[1]),
            (((1,),), ((1, 0),)), (((2,),), right[1]), (((6,),), right[1]), (right[0], ((0, 1), (1, 0))), (None, right[1]), "ab",
            (right[0], None), {0: right}, (((1,),), ((1, 0), (0, 2))), (((1,),), ((1, 0), (0, 1), (0, 0))),
        ]:
            self.tells(False, is_way, UP, UP, value)
        one, other = (5, (2, 1), ((">", ((1,), (0,))),)), (5, (1, 1), ((">", ((1,),)),))
        self.tells(False, is_way, one, other, (((1,), (0,)), ((1,),)))
        self.tells(False, is_way, other, one, (((1, 0),), ((1,),)))


class TestErrors(Checks):
    def calls(self):
        return [
            are_exchangeable, parting_half, unlike_entry, way_between, lambda one, other: is_way(one, other, None),
            lambda one, other: tells_halves(one, other, UP),
        ]

    def test_no_lines(self):
        for odd in odd_values():
            if not is_line(odd):
                for call in self.calls():
                    self.raises(BadLine, odd, call, odd, None)
                    self.raises(BadLine, odd, call, UP, odd)
                self.raises(BadLine, odd, tells_halves, UP, (3, (1,), ()), odd)

    def test_no_pairs(self):
        rng = random.Random(159)
        wide = random_line(rng, 5, [0] * 17)
        for one, other in [
            (UP, (3, (1, 2), ((">", ((1, 0),)),))), (UP, (5, (2,), ())), (UP, (5, (2, 1), ((">", ((1,), (0,))),))), (wide, wide),
            (UP, (5, (1, 1, 2), ((">", ((1,),)), (">", ((1, 0),))))), (wide, (5, (0,) * 16, ((">", ()),) * 15)), ((2, (1,), ()), (2, (2,), ())),
        ]:
            for call in self.calls():
                self.raises_tuple(BadPair, (one, other), call, one, other)
                self.raises_tuple(BadPair, (other, one), call, other, one)
        right = (5, (1,), ())
        self.raises_tuple(BadPair, (UP, right), tells_halves, UP, UP, right)
        self.raises_tuple(BadPair, (UP, (3, (2,), ())), tells_halves, UP, UP, (3, (2,), ()))

    def test_signs_only_for_ways(self):
        self.raises_tuple(BadPair, (UP, DOWN), way_between, UP, DOWN)
        self.raises_tuple(BadPair, (UP, DOWN), is_way, UP, DOWN, None)
        self.raises_tuple(BadPair, (UP, DOWN), is_way, UP, DOWN, (((1,),), ((1, 0), (0, 1))))
        for call in (are_exchangeable, parting_half, unlike_entry):
            call(UP, DOWN)

    def test_17_places_together(self):
        rng = random.Random(160)
        one = drawn(rng, 2, ((0, 9, 1),), random_signs(rng, 10))
        for many in range(1, 10):
            right = (2, (1,) + (0,) * (many - 1), (("<", ()),) * (many - 1))
            if many <= 8:
                self.tells(False, tells_halves, one, one, right)
            else:
                self.raises_tuple(BadPair, (one, right), tells_halves, one, one, right)
        sixteen = (2, (0,) * 16, (("<", ()),) * 15)
        self.tells(False, tells_halves, sixteen, sixteen, (2, (0, 3), (("<", ((), (), ())),)))
        three = (2, (0, 0, 0), (("<", ()),) * 2)
        self.raises_tuple(BadPair, (sixteen, three), tells_halves, sixteen, sixteen, three)


if __name__ == "__main__":
    unittest.main()
