"""[7], stage 8: lines, what is cut, mirrored, laid side by side, told in other bases and put together."""

import random
import unittest

from staybars.errors import BadBases, BadLine, BadPair, BadStretch
from staybars.lines import changed_line, cut_line, is_line, lines_beside, mirrored_line, places_of, put_together, signs_of
from staybars.looks import rank_of
from tests.helpers import Checks, nested, odd_values, shown
from tests.rooms import PRIMES, all_entries, lead, random_base_table, random_line, random_table, rank_by_count

L = (5, (1, 2, 1), ((">", ((1, 0),)), ("<", ((1, 1),))))
UP = (5, (1, 2), ((">", ((1, 0),)),))
DOWN = (5, (1, 2), (("<", ((0,), (1,))),))


def random_widths(rng, many, widest):
    return [rng.randrange(widest + 1) for _ in range(many)]


def empty_line(p, places, sign=">"):
    """A line of rooms that are 0 wide."""
    return (p, (0,) * places, ((sign, ()),) * (places - 1))


def same_rows(width):
    return tuple(tuple(int(i == j) for j in range(width)) for i in range(width))


def ends(line, k):
    """The places from which and to which map number k leads."""
    return (k, k + 1) if line[2][k][0] == ">" else (k + 1, k)


class TestIsLine(Checks):
    def test_places_from_1_to_17(self):
        rng = random.Random(81)
        self.tells(False, is_line, (2, (), ()))
        for places in range(1, 18):
            for p in PRIMES:
                line = random_line(rng, p, random_widths(rng, places, 8))
                self.tells(True, is_line, line)
                self.assertEqual(places_of(line), places)
                self.assertEqual(signs_of(line), tuple(sign for sign, _ in line[2]))
                self.tells(True, is_line, empty_line(p, places, "<"))
        self.tells(False, is_line, empty_line(2, 18))

    def test_one_thing_bent(self):
        for line in (UP, DOWN, L):
            self.tells(True, is_line, line)
        for line in [
            (4, (1, 2), UP[2]), (1, (1,), ()), (True, (1,), ()), (5, (1, 3), UP[2]), (5, (2, 2), UP[2]), (5, (1,), UP[2]),
            (5, (1, 2), ()), (5, (1, 2, 1), UP[2]), (5, (1, 2), UP[2] * 2), (5, (1, 9), ((">", ((0,) * 9,)),)),
            (5, (1, -1), ((">", ((),)),)), (5, (1, True), ((">", ((1,),)),)), (5, (1, 2), (("<", ((1, 0),)),)),
            (5, (1, 2), ((">", ((0,), (1,))),)), (5, (1, 2), ((">", ((5, 0),)),)), (5, (1, 2), ((">", ((-1, 0),)),)),
            (5, (1, 2), ((">", ((1, 0), (0, 1))),)), (5, (1, 2), ((">", ()),)), (5, (1, 2), ((">", ((1, True),)),)),
            (5, (1, 2), ((">", [(1, 0)]),)), (5, (1, 2), ((">", ([1, 0],)),)), (5, (1, 2), ([">", ((1, 0),)],)),
            (5, (1, 2), [(">", ((1, 0),))]), (5, [1, 2], UP[2]), [5, (1, 2), UP[2]], (5, (1, 2), ((">", ((1, 0),), 0),)),
            (5, (1, 2), ((((1, 0),), ">"),)), (5, (1, 2), (("=", ((1, 0),)),)), (5, (1, 2), (("", ((1, 0),)),)),
            (5, (1, 2), (("><", ((1, 0),)),)), (5, (1, 2), ((None, ((1, 0),)),)), (5, (1, 2), (((">",), ((1, 0),)),)),
            (5, (1, 2), UP[2], ()), (5, (1, 2)), (3, (1, 2), ((">", ((3, 0),)),)), (5, (0,), ((),)), (5, 1, ()),
            (5, (10 ** 40,), ()), (10 ** 40, (1,), ()), (5, (nested(tuple, 150),), ()), (5, (1,), nested(tuple, 150)),
        ]:
            self.tells(False, is_line, line)

    def test_other_signs(self):
        for sign in ("=", "", "><", ">>", " >", "> ", "\u2265", None, True, 1, (">",), [">"], ("<",), {">": 1}, 10 ** 40):
            self.tells(False, is_line, (5, (1, 1), ((sign, ((1,),)),)))
            self.tells(False, is_line, (5, (1, 2), ((sign, ((1, 0),)),)))
            self.tells(False, is_line, (5, (1, 2), ((sign, ((1,), (0,))),)))

    def test_tables_of_rooms_of_width_0(self):
        self.tells(True, is_line, (2, (0, 3), ((">", ()),)))
        self.tells(True, is_line, (2, (0, 3), (("<", ((), (), ())),)))
        self.tells(False, is_line, (2, (0, 3), (("<", ()),)))
        self.tells(False, is_line, (2, (0, 3), ((">", ((), (), ())),)))

    def test_any_value(self):
        for odd in odd_values():
            self.tells(shown(odd) in ("(2, (0,), ())", "(5, (1,), ())"), is_line, odd)

    def test_others_raise_bad_line(self):
        for odd in odd_values():
            if not is_line(odd):
                for call in (places_of, signs_of, mirrored_line):
                    self.raises(BadLine, odd, call, odd)
                self.raises(BadLine, odd, cut_line, odd, None, None)
                self.raises(BadLine, odd, changed_line, odd, None)
                for call in (lines_beside, put_together):
                    self.raises(BadLine, odd, call, odd, None)
                    self.raises(BadLine, odd, call, L, odd)


class TestCutAndMirrored(Checks):
    def test_cut(self):
        rng = random.Random(82)
        for places in (1, 2, 5, 17):
            line = random_line(rng, 3, random_widths(rng, places, 8))
            for first in range(places):
                for last in range(first, places):
                    cut = cut_line(line, first, last)
                    self.tells(True, is_line, cut)
                    self.assertEqual(cut[0], 3)
                    self.assertEqual(cut[1], tuple(line[1][k] for k in range(first, last + 1)))
                    self.assertEqual(cut[2], tuple(line[2][k] for k in range(first, last)))

    def test_no_stretch(self):
        for first in range(-2, 5):
            for last in range(-2, 5):
                if not 0 <= first <= last < 3:
                    self.raises_tuple(BadStretch, (first, last), cut_line, L, first, last)
        for first, last in [(None, 1), (0, None), (False, 1), (0, True), ("0", 1), (0, 10 ** 40), ([], 1), ((0,), 1)]:
            self.raises_tuple(BadStretch, (first, last), cut_line, L, first, last)

    def test_mirrored_and_mirrored_twice(self):
        rng = random.Random(83)
        for places in (1, 2, 3, 8, 17):
            for p in PRIMES:
                line = random_line(rng, p, random_widths(rng, places, 4))
                mirrored = mirrored_line(line)
                self.tells(True, is_line, mirrored)
                self.assertEqual(mirrored[0], p)
                for k in range(places):
                    self.assertEqual(mirrored[1][k], line[1][places - 1 - k])
                for k in range(places - 1):
                    sign, table = line[2][places - 2 - k]
                    self.assertEqual(mirrored[2][k], ("<" if sign == ">" else ">", table))
                self.assertEqual(mirrored_line(mirrored), line)

    def test_ranks_of_the_mirrored_line(self):
        rng = random.Random(84)
        for p in (2, 3):
            line = random_line(rng, p, random_widths(rng, 4, 3))
            for a in range(4):
                for b in range(a, 4):
                    self.assertEqual(rank_of(mirrored_line(line), 3 - b, 3 - a), rank_of(line, a, b))


class TestBeside(Checks):
    def test_both_lead_as_they_did(self):
        rng = random.Random(85)
        for p in (2, 3):
            for _ in range(10):
                one = random_line(rng, p, random_widths(rng, 4, 2))
                other = self.fellow(rng, one)
                beside = lines_beside(one, other)
                self.tells(True, is_line, beside)
                self.assertEqual(signs_of(beside), signs_of(one))
                self.assertEqual(beside[1], tuple(x + y for x, y in zip(one[1], other[1])))
                for k in range(3):
                    self.leads_both(p, one, other, beside, k)

    def fellow(self, rng, line):
        """Another line of the same p and signs."""
        p, widths, maps = line
        new = random_widths(rng, len(widths), 2)
        tables = []
        for k, (sign, _) in enumerate(maps):
            here, there = ends(line, k)
            tables.append((sign, random_table(rng, p, new[here], new[there])))
        return (p, tuple(new), tuple(tables))

    def leads_both(self, p, one, other, beside, k):
        here, there = ends(one, k)
        for x in all_entries(p, one[1][here]):
            for y in all_entries(p, other[1][here]):
                led = lead(p, beside[1][there], beside[2][k][1], x + y)
                first = lead(p, one[1][there], one[2][k][1], x)
                second = lead(p, other[1][there], other[2][k][1], y)
                self.assertEqual(led, first + second)

    def test_what_goes_together(self):
        wide = (5, (7, 0, 7), ((">", ((),) * 7), ("<", ((),) * 7)))
        self.assertEqual(lines_beside(L, wide)[1], (8, 2, 8))
        eight = (5, (0, 6, 0), ((">", ()), ("<", ())))
        self.assertEqual(lines_beside(eight, L)[1], (1, 8, 1))

    def test_what_does_not_go_together(self):
        for one, other in [
            (L, (5, (7, 7, 0), ((">", ((0,) * 7,) * 7), ("<", ())))),
            (L, (5, (8, 0, 0), ((">", ((),) * 8), ("<", ())))), (L, (5, (0, 0, 8), ((">", ()), ("<", ((),) * 8)))),
            (L, (3, (0, 0, 0), ((">", ()), ("<", ())))), (L, (5, (0, 0, 0), ((">", ()), (">", ())))), (UP, L), (L, UP),
            (UP, DOWN), ((5, (0,), ()), UP), ((5, (8,), ()), (5, (1,), ())),
        ]:
            self.raises_tuple(BadPair, (one, other), lines_beside, one, other)


class TestChanged(Checks):
    def test_entries_are_told_anew(self):
        rng = random.Random(86)
        for p in PRIMES:
            for _ in range(6):
                widths = random_widths(rng, 4, 3 if p < 5 else 2)
                line = random_line(rng, p, widths)
                bases = tuple(random_base_table(rng, p, width) for width in widths)
                changed = changed_line(line, bases)
                self.tells(True, is_line, changed)
                self.assertEqual([changed[0], changed[1], signs_of(changed)], [p, line[1], signs_of(line)])
                for k in range(3):
                    self.same_ways(p, line, changed, bases, k)

    def same_ways(self, p, line, changed, bases, k):
        """An entry as it is told anew means the sum of the rows of the base."""
        here, there = ends(line, k)
        for entry in all_entries(p, line[1][here]):
            meant = lead(p, line[1][here], bases[here], entry)
            led = lead(p, line[1][there], changed[2][k][1], entry)
            self.assertEqual(lead(p, line[1][there], bases[there], led), lead(p, line[1][there], line[2][k][1], meant))

    def test_there_and_back(self):
        rng = random.Random(87)
        for p in PRIMES:
            line = random_line(rng, p, [2, 8, 0, 1, 5])
            swapped = tuple(tuple(reversed(same_rows(width))) for width in line[1])
            self.assertEqual(changed_line(changed_line(line, swapped), swapped), line)
            self.assertEqual(changed_line(line, tuple(same_rows(width) for width in line[1])), line)
            taken = tuple(tuple(tuple(n * (p - 1) for n in row) for row in same_rows(width)) for width in line[1])
            self.assertEqual(changed_line(line, taken), line)

    def test_one_place(self):
        self.assertEqual(changed_line((7, (2,), ()), (((1, 1), (0, 3)),)), (7, (2,), ()))
        self.assertEqual(changed_line((7, (0,), ()), ((),)), (7, (0,), ()))

    def test_bad_bases(self):
        right = (((1,),), ((1, 0), (0, 1)), ((1,),))
        self.assertEqual(changed_line(L, right), L)
        for wrong in [
            list(right), right[:2], right + (((1,),),), (), None, "abc", {}, 10 ** 40, ([(1,)],) + right[1:],
            (((0,),),) + right[1:], (((5,),),) + right[1:], (((True,),),) + right[1:], (((1, 0), (0, 1)),) + right[1:],
            (right[0], ((1, 1), (2, 2)), right[2]), (right[0], ((0, 0), (0, 1)), right[2]), (right[0], ((1, 0),), right[2]),
            (right[0], ((1, 0), [0, 1]), right[2]), (right[0], None, right[2]), right[:2] + (((0,),),), right[:2] + ((),),
        ]:
            self.raises(BadBases, wrong, changed_line, L, wrong)


class TestPutTogether(Checks):
    def test_cut_and_put_together(self):
        rng = random.Random(88)
        for places in (1, 2, 6, 17):
            line = random_line(rng, 7, random_widths(rng, places, 5))
            for k in range(places):
                self.assertEqual(put_together(cut_line(line, 0, k), cut_line(line, k, places - 1)), line)

    def test_17_and_18_places(self):
        left = random_line(random.Random(89), 2, [3] * 10)
        for many in range(1, 17):
            right = (2, (3,) + (0,) * (many - 1), (("<", ()),) * (many - 1))
            if many <= 8:
                line = put_together(left, right)
                self.tells(True, is_line, line)
                self.assertEqual(places_of(line), 9 + many)
                self.assertEqual([line[1], line[2]], [left[1] + right[1][1:], left[2] + right[2]])
            else:
                self.raises_tuple(BadPair, (left, right), put_together, left, right)
        long = empty_line(2, 17)
        self.assertEqual(put_together(long, (2, (0,), ())), long)
        self.assertEqual(put_together((2, (0,), ()), long), long)
        short = empty_line(2, 2)
        self.raises_tuple(BadPair, (long, short), put_together, long, short)
        self.raises_tuple(BadPair, (short, long), put_together, short, long)

    def test_what_does_not_go_together(self):
        for left, right in [(UP, UP), (L, (3, (1,), ())), (UP, (5, (1,), ())), (L, (5, (0,), ())), (UP, (5, (3,), ()))]:
            self.raises_tuple(BadPair, (left, right), put_together, left, right)

    def test_ranks_across_the_shared_room(self):
        rng = random.Random(90)
        for _ in range(10):
            left, right = random_line(rng, 2, [2, 3, 3]), random_line(rng, 2, [3, 2, 3])
            line = put_together(left, right)
            for a in range(5):
                for b in range(a, 5):
                    self.assertEqual(rank_of(line, a, b), rank_by_count(line, a, b))


if __name__ == "__main__":
    unittest.main()
