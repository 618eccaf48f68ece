"""[14], stage 16: papers of lines, right ones and those with one thing bent."""

import itertools
import random
import unittest

from staybars.bars import mirrored_heap, plain_line
from staybars.cuts import bars_ahead, bars_over, bars_past
from staybars.errors import BadLine, BadNumber, BadPair, BadPaper, BadRows, BadStretch
from staybars.flags import heap_of_line
from staybars.lines import changed_line, cut_line, is_line, lines_beside, mirrored_line
from staybars.looks import heap_of_ranks, rank_of
from staybars.papers import added_row, beside_papers, bases_of_paper, cut_paper, heap_of_paper, is_paper, mirrored_paper, paper_of
from tests.drawn import drawn, drawn_lines, heap_by_ranks, random_signs, stretches
from tests.helpers import Checks, nested, odd_values
from tests.rooms import PRIMES, add, all_entries, lead, random_heap, random_line, scale, span

L = (5, (1, 2, 1), ((">", ((1, 0),)), ("<", ((1, 1),))))
P = ((1, 2, ((1, 1), (1,))), (0, 1, ((1,), (1, 0))))
U = (5, (1, 2), ((">", ((1, 0),)),))
Q = ((0, 1, ((1,), (1, 0))), (1, 1, ((0, 1),)))


def right_by_entries(line, paper):
    """Whether a tuple of rows of the right kinds is a right paper, by all entries of the rooms."""
    p, widths, maps = line
    for k, width in enumerate(widths):
        held = [entries[k - a] for a, b, entries in paper if a <= k <= b]
        if len(held) != width or len(span(p, width, held)) != p ** width:
            return False
    for a, b, entries in paper:
        for k, (sign, table) in enumerate(maps):
            here, there = (k, k + 1) if sign == ">" else (k + 1, k)
            if a <= here <= b:
                led = lead(p, widths[there], table, entries[here - a])
                if led != (entries[there - a] if a <= there <= b else (0,) * widths[there]):
                    return False
    return True


def small_lines(seed, often=12):
    rng = random.Random(seed)
    for p, widest in [(2, 4), (3, 3), (5, 2), (7, 2)]:
        for _ in range(often):
            yield rng, random_line(rng, p, [rng.randrange(widest + 1) for _ in range(rng.randrange(1, 7))])


def bent_papers(line, paper):
    """Papers with one number, one end, one row or one form turned."""
    p = line[0]
    for at, (a, b, entries) in enumerate(paper):
        ahead, behind = paper[:at], paper[at + 1:]
        for k, entry in enumerate(entries):
            for spot in range(len(entry)):
                for number in range(p):
                    turned = entry[:spot] + (number,) + entry[spot + 1:]
                    yield ahead + ((a, b, entries[:k] + (turned,) + entries[k + 1:]),) + behind
        if a < b:
            yield ahead + ((a + 1, b, entries[1:]),) + behind
            yield ahead + ((a, b - 1, entries[:-1]),) + behind
            yield ahead + ((a, a, entries[:1]), (a + 1, b, entries[1:])) + behind
        yield ahead + behind
        yield ahead + ((a, b, entries),) * 2 + behind


class TestPaperOf(Checks):
    def test_right_by_entries(self):
        for _, line in small_lines(161):
            paper = paper_of(line)
            self.assertIs(type(paper), tuple)
            self.assertTrue(right_by_entries(line, paper))
            self.tells(True, is_paper, line, paper)
            self.assertEqual(paper_of(line), paper)
            self.assertEqual(heap_of_paper(line, paper), heap_by_ranks(line))

    def test_of_known_bars(self):
        rng = random.Random(162)
        for p, heap, signs, line in drawn_lines(rng, 100, 8, 17):
            paper = paper_of(line)
            self.tells(True, is_paper, line, paper)
            self.assertEqual(heap_of_paper(line, paper), heap)
            bases = bases_of_paper(line, paper)
            self.assertEqual(changed_line(line, bases), plain_line(p, heap, signs))

    def test_ends(self):
        for p in PRIMES:
            self.assertEqual(paper_of((p, (0,), ())), ())
            self.tells(True, is_paper, (p, (0,), ()), ())
            self.assertEqual(bases_of_paper((p, (0,), ()), ()), ((),))
            empty = (p, (0,) * 17, ((">", ()),) * 16)
            self.assertEqual([paper_of(empty), heap_of_paper(empty, ()), bases_of_paper(empty, ())], [(), (), ((),) * 17])
            eight = (p, (8,), ())
            self.tells(True, is_paper, eight, paper_of(eight))
            self.assertEqual(heap_of_paper(eight, paper_of(eight)), ((0, 0, 8),))
            self.tells(False, is_paper, eight, ())

    def test_four_ways_to_one_heap(self):
        rng = random.Random(163)
        for p, heap, signs, line in drawn_lines(rng, 40, 5, 8):
            places = len(signs) + 1
            self.assertEqual(heap_of_line(line), heap)
            self.assertEqual(heap_of_paper(line, paper_of(line)), heap)
            ranks = {stretch: rank_of(line, *stretch) for stretch in stretches(places)}
            self.assertEqual(heap_of_ranks(places, ranks), heap)
            for k in range(places):
                self.assertEqual(tuple(sorted(bars_ahead(line, k) + bars_over(line, k) + bars_past(line, k))), heap)


class TestIsPaper(Checks):
    def test_one_thing_turned(self):
        told = []
        for _, line in small_lines(164, 4):
            for paper in bent_papers(line, paper_of(line)):
                wanted = right_by_entries(line, paper)
                told.append(wanted)
                self.tells(wanted, is_paper, line, paper)
        self.assertTrue(50 < sum(told) < len(told) // 2)

    def test_all_papers_of_a_small_line(self):
        for line in [
            (2, (1, 2), ((">", ((1, 0),)),)), (2, (1, 2), (("<", ((0,), (1,))),)), (2, (1, 1), ((">", ((0,),)),)), (2, (1, 1), (("<", ((1,),)),)),
        ]:
            p, widths, _ = line
            rows = []
            for a, b in stretches(2):
                rows += [(a, b, entries) for entries in itertools.product(*[all_entries(p, width) for width in widths[a:b + 1]])]
            heaps = set()
            for many in range(4):
                for paper in itertools.permutations(rows, many):
                    wanted = right_by_entries(line, paper)
                    self.tells(wanted, is_paper, line, paper)
                    if wanted:
                        heaps.add(heap_of_paper(line, paper))
            self.assertEqual(heaps, {heap_by_ranks(line)})

    def test_rows_in_any_sequence(self):
        rng = random.Random(165)
        for p, heap, signs, line in drawn_lines(rng, 20, 4, 5):
            paper = list(paper_of(line))
            rng.shuffle(paper)
            self.tells(True, is_paper, line, tuple(paper))
            self.assertEqual(heap_of_paper(line, tuple(paper)), heap)
            self.assertEqual(changed_line(line, bases_of_paper(line, tuple(paper))), plain_line(p, heap, signs))

    def test_any_value(self):
        self.tells(True, is_paper, L, P)
        for value in odd_values() + [
            list(P), P[:1], P + P[:1], (list(P[0]), P[1]), ((1, 2, [(1, 1), (1,)]), P[1]), ((1, 2, ([1, 1], (1,))), P[1]), (P[0], None),
            ((1, 2, ((1, 1), (True,))), P[1]), ((True, 2, ((1, 1), (1,))), P[1]), ((1, 2, ((1, 1),)), P[1]), ((1, 3, ((1, 1), (1,), ())), P[1]),
            ((2, 1, ((1, 1), (1,))), P[1]), ((1, 2, ((1, 6), (1,))), P[1]), ((1, 2, ((1, 1), (1,), (1,))), P[1]), ((1, 2), P[1]), {}, "ab",
            ((1, 2, ((1, 1), (1,)), ()), P[1]), ((-1, 0, ((1,), (1,))), P[1]), ((1, 2, ((1, 1, 0), (1,))), P[1]), nested(tuple, 200),
            ((1, 2, {0: (1, 1), 1: (1,)}), P[1]), ((1, "2", ((1, 1), (1,))), P[1]), ((1, 2, ("11", "1")), P[1]), (P[0], ()), ((), ()),
            ((1, 2, None), P[1]), ((1, 10 ** 40, ((1, 1), (1,))), P[1]),
        ]:
            self.tells(False, is_paper, L, value)
        for odd in odd_values():
            self.tells(type(odd) is tuple and odd == (), is_paper, (5, (0, 0), ((">", ()),)), odd)


class TestBasesAndCuts(Checks):
    def test_bases_have_the_papers_entries_in_sequence(self):
        rng = random.Random(166)
        for p, heap, signs, line in drawn_lines(rng, 30, 5, 6):
            paper = list(paper_of(line))
            rng.shuffle(paper)
            bases = bases_of_paper(line, tuple(paper))
            for k in range(len(signs) + 1):
                rows = [row for stretch in stretches(len(signs) + 1) for row in paper if row[:2] == stretch]
                self.assertEqual(bases[k], tuple(entries[k - a] for a, b, entries in rows if a <= k <= b))

    def test_equal_stretches_keep_the_papers_sequence(self):
        line = (3, (2,), ())
        for paper in (((0, 0, ((1, 0),)), (0, 0, ((0, 1),))), ((0, 0, ((0, 1),)), (0, 0, ((1, 0),))), ((0, 0, ((2, 1),)), (0, 0, ((1, 1),)))):
            self.assertEqual(bases_of_paper(line, paper), (tuple(row[2][0] for row in paper),))

    def test_cut(self):
        rng = random.Random(167)
        for p, heap, signs, line in drawn_lines(rng, 30, 4, 6):
            paper = list(paper_of(line))
            rng.shuffle(paper)
            for first, last in stretches(len(signs) + 1):
                told = cut_paper(line, tuple(paper), first, last)
                wanted = []
                for a, b, entries in paper:
                    kept = [k for k in range(a, b + 1) if first <= k <= last]
                    if kept:
                        wanted.append((kept[0] - first, kept[-1] - first, tuple(entries[k - a] for k in kept)))
                self.assertEqual(told, tuple(wanted))
                self.tells(True, is_paper, cut_line(line, first, last), told)

    def test_mirrored(self):
        rng = random.Random(168)
        for p, heap, signs, line in drawn_lines(rng, 40, 5, 8):
            paper = list(paper_of(line))
            rng.shuffle(paper)
            told = mirrored_paper(line, tuple(paper))
            n = len(signs)
            self.assertEqual(told, tuple((n - b, n - a, tuple(reversed(entries))) for a, b, entries in paper))
            self.tells(True, is_paper, mirrored_line(line), told)
            self.assertEqual(heap_of_paper(mirrored_line(line), told), mirrored_heap(n + 1, heap))
            self.assertEqual(mirrored_paper(mirrored_line(line), told), tuple(paper))

    def test_beside(self):
        rng = random.Random(169)
        for number in range(40):
            p, places = PRIMES[number % 4], 1 + number % 7
            signs = random_signs(rng, places)
            one, other = (drawn(rng, p, random_heap(rng, places, 4), signs) for _ in range(2))
            first, second = paper_of(one), paper_of(other)
            told = beside_papers(one, first, other, second)
            self.tells(True, is_paper, lines_beside(one, other), told)
            wanted = [(a, b, tuple(x + (0,) * other[1][a + k] for k, x in enumerate(entries))) for a, b, entries in first]
            wanted += [(a, b, tuple((0,) * one[1][a + k] + x for k, x in enumerate(entries))) for a, b, entries in second]
            self.assertEqual(told, tuple(wanted))


class TestAddedRow(Checks):
    def test_by_entries(self):
        told = []
        for rng, line in small_lines(170, 8):
            p, paper = line[0], paper_of(line)
            for i, j in itertools.permutations(range(len(paper)), 2):
                number = rng.randrange(p)
                added = added_row(line, paper, i, j, number)
                wanted = paper[:i] + (self.summed(p, paper[i], paper[j], number),) + paper[i + 1:]
                right = right_by_entries(line, wanted)
                self.assertEqual(added, wanted if right else None)
                share = max(paper[i][0], paper[j][0]) <= min(paper[i][1], paper[j][1])
                if number == 0 or not share:
                    self.assertEqual(added, paper)
                if number and share:
                    told.append(right)
                    self.assertEqual(right, self.crosses(line, paper[i], paper[j]))
        self.assertTrue(20 < sum(told) < len(told) - 20)

    def summed(self, p, row, other, number):
        a, b, entries = row
        new = []
        for k in range(a, b + 1):
            new.append(entries[k - a])
            if other[0] <= k <= other[1]:
                new[-1] = add(p, new[-1], scale(p, number, other[2][k - other[0]]))
        return a, b, tuple(new)

    def crosses(self, line, first, second):
        """Whether the stretch of the first crosses into that of the second, place by place, by [16]."""
        shared = [k for k in range(len(line[1])) if first[0] <= k <= first[1] and second[0] <= k <= second[1]]
        if not shared:
            return False
        for inside, outside in ((shared[0], shared[0] - 1), (shared[-1], shared[-1] + 1)):
            if 0 <= outside < len(line[1]):
                sign = line[2][min(inside, outside)][0]
                away = (sign == ">") == (outside > inside)
                if first[0] <= outside <= first[1] and not away:
                    return False
                if second[0] <= outside <= second[1] and away:
                    return False
        return True

    def test_known_rows(self):
        self.assertEqual(added_row(U, Q, 1, 0, 3), ((0, 1, ((1,), (1, 0))), (1, 1, ((3, 1),))))
        self.assertEqual([added_row(U, Q, 0, 1, number) for number in range(5)], [Q, None, None, None, None])
        self.assertEqual([added_row(U, Q, 1, 0, 0), added_row(L, P, 0, 1, 0)], [Q, P])
        apart = (3, (1, 1), ((">", ((0,),)),))
        paper = ((0, 0, ((1,),)), (1, 1, ((2,),)))
        self.assertEqual([added_row(apart, paper, i, 1 - i, 2) for i in (0, 1)], [paper, paper])
        down = (5, (1, 2), (("<", ((1,), (0,))),))
        self.assertEqual(added_row(down, Q, 0, 1, 2), ((0, 1, ((1,), (1, 2))), (1, 1, ((0, 1),))))
        self.assertIsNone(added_row(down, Q, 1, 0, 2))

    def test_rows_ahead_of_numbers(self):
        for i, j in [
            (0, 0), (1, 1), (0, 2), (2, 0), (-1, 0), (0, -1), (True, 0), (0, True), (False, True), (False, 1), (None, 1), (0, None), ("0", 1),
            (0, 10 ** 40), ([0], 1), ((0, 1), 1), (2, 3),
        ]:
            for number in (0, 3, None, 5):
                self.raises_tuple(BadRows, (i, j), added_row, U, Q, i, j, number)
        for number in (None, True, False, -1, 5, 10 ** 40, -10 ** 40, "1", (1,), [1], {}):
            self.raises(BadNumber, number, added_row, U, Q, 0, 1, number)
            self.raises(BadNumber, number, added_row, U, Q, 1, 0, number)
        self.raises_tuple(BadRows, (0, 1), added_row, (5, (0,), ()), (), 0, 1, 0)
        self.raises_tuple(BadRows, (0, 1), added_row, (5, (1,), ()), ((0, 0, ((1,),)),), 0, 1, 0)


class TestErrors(Checks):
    def test_lines_ahead_of_papers(self):
        for odd in odd_values():
            if not is_line(odd):
                self.raises(BadLine, odd, paper_of, odd)
                for call in (is_paper, heap_of_paper, bases_of_paper, mirrored_paper):
                    self.raises(BadLine, odd, call, odd, None)
                self.raises(BadLine, odd, cut_paper, odd, None, None, None)
                self.raises(BadLine, odd, added_row, odd, None, None, None, None)
                self.raises(BadLine, odd, beside_papers, odd, None, None, None)
                self.raises(BadLine, odd, beside_papers, L, None, odd, None)

    def test_no_papers(self):
        for odd in odd_values() + [list(P), P[:1], P + P, (P[0], P[1][:2]), Q, ((1, 2, ((2, 1), (1,))), (0, 1, ((1,), (1, 0))))]:
            for call in (heap_of_paper, bases_of_paper, mirrored_paper):
                self.raises(BadPaper, odd, call, L, odd)
            self.raises(BadPaper, odd, cut_paper, L, odd, None, None)
            self.raises(BadPaper, odd, added_row, L, odd, None, None, None)
            self.raises(BadPaper, odd, beside_papers, L, odd, U, None)
            self.raises(BadPaper, odd, beside_papers, L, P, L, odd)

    def test_no_stretch(self):
        for first, last in [(0, 3), (-1, 1), (2, 1), (True, 1), (0, True), (None, 1), (0, None), ("0", 1), (3, 3), ([], {})]:
            self.raises_tuple(BadStretch, (first, last), cut_paper, L, P, first, last)

    def test_no_pair(self):
        wide = (5, (7, 7, 7), ((">", ((0,) * 7,) * 7), ("<", ((0,) * 7,) * 7)))
        three = (3, (0, 0, 0), ((">", ()), ("<", ())))
        for other, paper in ((U, Q), (wide, paper_of(wide)), (three, ())):
            self.raises_tuple(BadPair, (L, other), beside_papers, L, P, other, paper)
            self.raises_tuple(BadPair, (other, L), beside_papers, other, paper, L, P)


if __name__ == "__main__":
    unittest.main()
