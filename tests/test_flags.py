"""[9], [10], stage 12: birthdays, deathdays and the bars that they tell, by counting and for lines of known bars."""

import random
import unittest

from staybars.bars import mirrored_heap, plain_line
from staybars.chains import is_chain
from staybars.errors import BadEntry, BadLine
from staybars.flags import birthday_of, births_of, deathday_of, deaths_of, ended_bars, flags_of, heap_of_line, left_flag
from staybars.flags import right_flag
from staybars.lines import changed_line, cut_line, is_line
from staybars.papers import heap_of_paper, paper_of
from tests.drawn import birth_sequence, bases_for, drawn, drawn_lines, flag_by_sets, heap_by_ranks, random_signs, stretches
from tests.drawn import told_anew, turned
from tests.helpers import Checks, odd_values
from tests.rooms import PRIMES, add, all_entries, lead, random_heap, random_line, scale, span

UP = (5, (1, 2), ((">", ((1, 0),)),))
DOWN = (5, (1, 2), (("<", ((0,), (1,))),))
L = (5, (1, 2, 1), ((">", ((1, 0),)), ("<", ((1, 1),))))


def small_lines(seed, often=15):
    rng = random.Random(seed)
    for p, widest in [(2, 4), (3, 3), (5, 2), (7, 2)]:
        for _ in range(often):
            yield random_line(rng, p, [rng.randrange(widest + 1) for _ in range(rng.randrange(1, 7))])


class TestFlags(Checks):
    def test_counted_over_all_entries(self):
        for line in small_lines(131):
            n = len(line[2])
            flags = flags_of(line)
            self.assertIs(type(flags), list)
            self.assertEqual(flags, [flag_by_sets(cut_line(line, 0, k)) for k in range(n + 1)])
            self.assertEqual(left_flag(line), flags[-1])
            mirrored = flag_by_sets(turned(line))
            self.assertEqual(right_flag(line), tuple((n - day, part) for day, part in mirrored))
            for flag, width in ((left_flag(line), line[1][-1]), (right_flag(line), line[1][0])):
                self.tells(True, is_chain, line[0], width, tuple(part for _, part in flag))

    def test_days_of_all_entries(self):
        for line in small_lines(132, 8):
            p, widths, _ = line
            left = [(day, span(p, widths[-1], part)) for day, part in left_flag(line)]
            right = [(day, span(p, widths[0], part)) for day, part in right_flag(line)]
            for held, width, call in ((left, widths[-1], birthday_of), (right, widths[0], deathday_of)):
                for entry in all_entries(p, width):
                    if any(entry):
                        self.assertEqual(call(line, entry), next(day for day, part in held if entry in part))
                    else:
                        self.raises(BadEntry, entry, call, line, entry)

    def test_one_place(self):
        for p in PRIMES:
            whole = ((1, 0, 0), (0, 1, 0), (0, 0, 1))
            line = (p, (3,), ())
            self.assertEqual([left_flag(line), right_flag(line)], [((0, whole),)] * 2)
            self.assertEqual([births_of(line), deaths_of(line)], [{0: 3}] * 2)
            self.assertEqual([flags_of(line), heap_of_line(line), ended_bars(line)], [[((0, whole),)], ((0, 0, 3),), ()])
            empty = (p, (0,), ())
            self.assertEqual([left_flag(empty), right_flag(empty), flags_of(empty)], [(), (), [()]])
            self.assertEqual([births_of(empty), deaths_of(empty), heap_of_line(empty), ended_bars(empty)], [{}, {}, (), ()])
            self.raises(BadEntry, (), birthday_of, empty, ())

    def test_rooms_0_wide(self):
        line = (3, (0, 2, 0, 1, 0), ((">", ()), ("<", ()), (">", ()), ("<", ())))
        self.assertEqual(heap_of_line(line), ((1, 1, 2), (3, 3, 1)))
        self.assertEqual([ended_bars(line), left_flag(line), right_flag(line)], [heap_of_line(line), (), ()])
        self.assertEqual([len(flag) for flag in flags_of(line)], [0, 1, 0, 1, 0])
        line = (3, (2, 0, 2), (("<", ()), (">", ())))
        self.assertEqual([heap_of_line(line), ended_bars(line)], [((0, 0, 2), (2, 2, 2)), ((0, 0, 2),)])
        self.assertEqual([births_of(line), deaths_of(line)], [{2: 2}, {0: 2}])

    def test_what_is_born_later_stands_behind_by_forth_and_ahead_by_back(self):
        self.assertEqual(left_flag(UP), ((0, ((1, 0),)), (1, ((1, 0), (0, 1)))))
        self.assertEqual(left_flag(DOWN), ((1, ((1, 0),)), (0, ((1, 0), (0, 1)))))
        self.assertEqual([list(births_of(UP).items()), list(births_of(DOWN).items())], [[(0, 1), (1, 1)], [(1, 1), (0, 1)]])
        up, down = turned(UP), turned(DOWN)
        self.assertEqual(right_flag(up), ((1, ((1, 0),)), (0, ((1, 0), (0, 1)))))
        self.assertEqual(right_flag(down), ((0, ((1, 0),)), (1, ((1, 0), (0, 1)))))
        self.assertEqual([list(deaths_of(up)), list(deaths_of(down))], [[1, 0], [0, 1]])
        # Equal widths are left out whatever the birthdays are: the elder one stays where it stands ahead.
        self.assertEqual(left_flag((2, (1, 1), ((">", ((1,),)),))), ((0, ((1,),)),))
        self.assertEqual(left_flag((2, (1, 1), (("<", ((1,),)),))), ((0, ((1,),)),))
        self.assertEqual(left_flag((2, (1, 1), ((">", ((0,),)),))), ((1, ((1,),)),))
        self.assertEqual(left_flag((2, (1, 1), (("<", ((0,),)),))), ((1, ((1,),)),))


class TestKnownBars(Checks):
    def test_the_flag_of_a_line_of_known_bars(self):
        rng = random.Random(133)
        for number in range(60):
            p, places = PRIMES[number % 4], 1 + number % 9
            heap, signs = random_heap(rng, places, 5), random_signs(rng, places)
            plain = plain_line(p, heap, signs)
            bases = bases_for(rng, p, plain[1])
            line = changed_line(plain, bases)
            coming = [(a, b) for a, b, often in heap for _ in range(often) if b == places - 1]
            self.assertEqual(dict(births_of(line)), {a: coming.count((a, places - 1)) for a, _ in coming})
            days = [day for day in birth_sequence(signs) if day in births_of(line)]
            self.assertEqual(list(births_of(line)), days)
            self.birthdays_told_anew(rng, line, bases[-1], coming, days)

    def birthdays_told_anew(self, rng, line, base, coming, days):
        """A sum of bars is born when the one of them whose birthday comes last in the chain is born."""
        p, width = line[0], line[1][-1]
        for _ in range(8):
            entry = tuple(rng.randrange(p) for _ in range(width))
            meant = lead(p, width, base, entry)
            bars = [coming[k][0] for k in range(width) if meant[k]]
            if bars:
                self.assertEqual(birthday_of(line, entry), max(bars, key=days.index))
        self.assertEqual([day for day, _ in left_flag(line)], days)

    def test_heaps_and_ended_bars(self):
        rng = random.Random(134)
        for p, heap, signs, line in drawn_lines(rng, 60, 8, 17):
            self.assertEqual(heap_of_line(line), heap)
            self.assertEqual(ended_bars(line), tuple(pile for pile in heap if pile[1] < len(signs)))
            self.assertEqual(heap_of_line(turned(line)), mirrored_heap(len(signs) + 1, heap))
            self.assertEqual(births_of(line), {a: often for a, b, often in heap if b == len(signs)})
            self.assertEqual(deaths_of(line), {b: often for a, b, often in heap if a == 0})

    def test_the_heap_by_ranks_counted(self):
        for line in small_lines(135, 10):
            heap = heap_by_ranks(line)
            self.assertEqual(heap_of_line(line), heap)
            self.assertEqual(heap_of_paper(line, paper_of(line)), heap)

    def test_other_bases_other_flags_one_heap(self):
        rng = random.Random(136)
        for p, heap, signs, line in drawn_lines(rng, 20, 4, 6):
            other = told_anew(rng, line)
            self.assertEqual(heap_of_line(other), heap)
            self.assertEqual(births_of(other), births_of(line))
            self.assertEqual(left_flag(told_anew(rng, line, [len(signs)])), left_flag(line))
            self.assertEqual(right_flag(told_anew(rng, line, [0])), right_flag(line))

    def test_sums_and_multiples_are_not_born_later_in_the_chain(self):
        rng = random.Random(137)
        for p, heap, signs, line in drawn_lines(rng, 24, 6, 6):
            width, days = line[1][-1], [day for day, _ in left_flag(line)]
            for _ in range(10):
                x, y = (tuple(rng.randrange(p) for _ in range(width)) for _ in range(2))
                if any(x) and any(y) and any(add(p, x, y)):
                    first, second = days.index(birthday_of(line, x)), days.index(birthday_of(line, y))
                    both = days.index(birthday_of(line, add(p, x, y)))
                    self.assertLessEqual(both, max(first, second))
                    if first != second:
                        self.assertEqual(both, max(first, second))
                    self.assertEqual(birthday_of(line, scale(p, p - 1, x)), birthday_of(line, x))

    def test_wide_and_long(self):
        rng = random.Random(138)
        for p in PRIMES:
            heap = tuple((a, a + 9, 1) for a in range(8))
            line = drawn(rng, p, heap, random_signs(rng, 17))
            self.assertEqual(heap_of_line(line), heap)
            self.assertEqual(set(line[1]), set(range(1, 9)))
            full = tuple((a, b, 1) for a, b in stretches(3))
            self.assertEqual(heap_of_line(drawn(rng, p, full, random_signs(rng, 3))), full)


class TestErrors(Checks):
    def test_no_lines(self):
        for odd in odd_values():
            if not is_line(odd):
                for call in (left_flag, right_flag, flags_of, births_of, deaths_of, ended_bars, heap_of_line):
                    self.raises(BadLine, odd, call, odd)
                for call in (birthday_of, deathday_of):
                    self.raises(BadLine, odd, call, odd, None)

    def test_no_entries(self):
        wrong = [None, 0, (), (0,), (0, 0), (0, 0, 0), (1, 0, 0), (1, 5), (5, 0), (-1, 1), (True, 0), [1, 0], "10", (1, "0"), {1: 0}]
        for entry in wrong:
            self.raises(BadEntry, entry, birthday_of, UP, entry)
            self.raises(BadEntry, entry, deathday_of, turned(UP), entry)
        for odd in odd_values():
            if odd != (0, 1) and odd != (1, 0):
                self.raises(BadEntry, odd, birthday_of, UP, odd)
        self.assertEqual([birthday_of(UP, (0, 1)), deathday_of(turned(UP), (1, 0))], [1, 1])
        self.assertEqual([birthday_of(L, (3,)), deathday_of(L, (4,))], [1, 1])


if __name__ == "__main__":
    unittest.main()
