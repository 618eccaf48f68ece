"""[17], stage 19: the led line, the lost line and the rest line of a crossing, told exactly, by entries."""

import random
import unittest

from staybars.crossings import behind_crossing, is_crossing, is_one_to_one, is_onto
from staybars.errors import BadCrossing, BadLine, BadPair
from staybars.lines import is_line, signs_of
from staybars.shadows import led_line, lost_line, rest_line
from tests.drawn import drawn, nought_table, random_signs, same_rows
from tests.helpers import Checks, odd_values
from tests.rooms import PRIMES, add, all_entries, base_of_set, lead, random_heap, scale
from tests.test_crossings import CROSSING, ONE, OTHER, random_crossing


def summed(p, width, numbers, base):
    """The sum of the entries of a base, each taken times its number."""
    total = (0,) * width
    for number, entry in zip(numbers, base):
        total = add(p, total, scale(p, number, entry))
    return total


def numbers_of(p, width, base, entry):
    """The numbers by which the entries of a base are taken to come to an entry, by trying all."""
    found = [numbers for numbers in all_entries(p, len(base)) if summed(p, width, numbers, base) == entry]
    assert len(found) == 1
    return found[0]


def first_spots(base):
    """Where each entry of a base has its first number that isn't 0."""
    return [next(k for k, number in enumerate(entry) if number) for entry in base]


def other_spots(base, width):
    return [k for k in range(width) if k not in first_spots(base)]


def rest_of(p, width, base, entry):
    """What is told of an entry where the entries of the base are taken off, by trying all."""
    found = []
    for numbers in all_entries(p, len(base)):
        less = add(p, entry, scale(p, p - 1, summed(p, width, numbers, base)))
        if all(less[k] == 0 for k in first_spots(base)):
            found.append(tuple(less[k] for k in other_spots(base, width)))
    assert len(found) == 1
    return found[0]


def unit(width, k):
    return same_rows(width)[k]


def crossings(seed, often=60, most=2):
    """Lines and a crossing between them: nought, one to one, onto, both or neither."""
    rng = random.Random(seed)
    for number in range(often):
        p, places = PRIMES[number % 4], rng.randrange(1, 5)
        signs = random_signs(rng, places)
        heap = random_heap(rng, places, most)
        one = drawn(rng, p, heap, signs)
        other = drawn(rng, p, heap if number % 3 == 0 else random_heap(rng, places, most), signs)
        if number % 10 == 0:
            yield one, other, tuple(nought_table(a, b) for a, b in zip(one[1], other[1]))
        else:
            yield one, other, random_crossing(rng, one, other)


def led_bases(one, other, crossing):
    """The bases of what the one's rooms are led to, by all entries."""
    p = one[0]
    return [base_of_set(p, b, {lead(p, b, table, x) for x in all_entries(p, a)}) for a, b, table in zip(one[1], other[1], crossing)]


def lost_bases(one, other, crossing):
    """The bases of what is led to nought, by all entries."""
    p = one[0]
    lost = []
    for a, b, table in zip(one[1], other[1], crossing):
        lost.append(base_of_set(p, a, {x for x in all_entries(p, a) if not any(lead(p, b, table, x))}))
    return lost


class TestExactly(Checks):
    def line_in(self, line, bases):
        """The line whose rooms are told by these bases, its maps leading as the line's do."""
        p, widths, maps = line
        new = []
        for k, (sign, table) in enumerate(maps):
            here, there = (k, k + 1) if sign == ">" else (k + 1, k)
            rows = [lead(p, widths[there], table, entry) for entry in bases[here]]
            new.append((sign, tuple(numbers_of(p, widths[there], bases[there], row) for row in rows)))
        return p, tuple(len(base) for base in bases), tuple(new)

    def test_led(self):
        for one, other, crossing in crossings(221):
            p, bases = one[0], led_bases(one, other, crossing)
            line, onto, into = led_line(one, other, crossing)
            self.assertEqual(line, self.line_in(other, bases))
            self.assertEqual(into, tuple(bases))
            wanted = []
            for b, table, base in zip(other[1], crossing, bases):
                wanted.append(tuple(numbers_of(p, b, base, row) for row in table))
            self.assertEqual(onto, tuple(wanted))
            self.fellows(one, line)
            self.tells(True, is_crossing, one, line, onto)
            self.tells(True, is_crossing, line, other, into)
            self.tells(True, is_onto, one, line, onto)
            self.tells(True, is_one_to_one, line, other, into)
            self.assertEqual(behind_crossing(one, line, other, onto, into), crossing)

    def test_lost(self):
        for one, other, crossing in crossings(222):
            bases = lost_bases(one, other, crossing)
            line, into = lost_line(one, other, crossing)
            self.assertEqual(line, self.line_in(one, bases))
            self.assertEqual(into, tuple(bases))
            self.fellows(one, line)
            self.tells(True, is_crossing, line, one, into)
            self.tells(True, is_one_to_one, line, one, into)
            nought = tuple(nought_table(a, b) for a, b in zip(line[1], other[1]))
            self.assertEqual(behind_crossing(line, one, other, into, crossing), nought)

    def test_rest(self):
        for one, other, crossing in crossings(223):
            p, widths, maps = other
            bases = led_bases(one, other, crossing)
            line, onto = rest_line(one, other, crossing)
            spots = [other_spots(base, width) for base, width in zip(bases, widths)]
            new = []
            for k, (sign, table) in enumerate(maps):
                here, there = (k, k + 1) if sign == ">" else (k + 1, k)
                rows = [lead(p, widths[there], table, unit(widths[here], spot)) for spot in spots[here]]
                new.append((sign, tuple(rest_of(p, widths[there], bases[there], row) for row in rows)))
            self.assertEqual(line, (p, tuple(len(held) for held in spots), tuple(new)))
            wanted = []
            for width, base in zip(widths, bases):
                wanted.append(tuple(rest_of(p, width, base, unit(width, k)) for k in range(width)))
            self.assertEqual(onto, tuple(wanted))
            self.fellows(one, line)
            self.tells(True, is_crossing, other, line, onto)
            self.tells(True, is_onto, other, line, onto)
            nought = tuple(nought_table(a, b) for a, b in zip(one[1], line[1]))
            self.assertEqual(behind_crossing(one, other, line, crossing, onto), nought)

    def fellows(self, one, line):
        self.tells(True, is_line, line)
        self.assertEqual([line[0], signs_of(line)], [one[0], signs_of(one)])

    def test_rest_entries_by_all_entries(self):
        for one, other, crossing in crossings(224, 20):
            p = one[0]
            _, onto = rest_line(one, other, crossing)
            for width, base, table in zip(other[1], led_bases(one, other, crossing), onto):
                for x in all_entries(p, width):
                    self.assertEqual(lead(p, width - len(base), table, x), rest_of(p, width, base, x))


class TestKinds(Checks):
    def test_widths_come_to_those_of_the_one_and_of_the_other(self):
        kinds = set()
        for one, other, crossing in crossings(225, 120):
            led, lost, rest = (call(one, other, crossing)[0] for call in (led_line, lost_line, rest_line))
            self.assertEqual(tuple(x + y for x, y in zip(lost[1], led[1])), one[1])
            self.assertEqual(tuple(x + y for x, y in zip(led[1], rest[1])), other[1])
            self.assertEqual(not any(lost[1]), is_one_to_one(one, other, crossing))
            self.assertEqual(not any(rest[1]), is_onto(one, other, crossing))
            kinds.add((not any(lost[1]), not any(rest[1])))
        self.assertEqual(len(kinds), 4)

    def test_the_same_crossing(self):
        rng = random.Random(226)
        for p in PRIMES:
            line = drawn(rng, p, random_heap(rng, 6, 8), random_signs(rng, 6))
            same = tuple(same_rows(width) for width in line[1])
            self.assertEqual(led_line(line, line, same), (line, same, same))
            empty = (p, (0,) * 6, tuple((sign, ()) for sign in signs_of(line)))
            self.assertEqual(lost_line(line, line, same), (empty, ((),) * 6))
            self.assertEqual(rest_line(line, line, same), (empty, tuple(((),) * width for width in line[1])))

    def test_nought(self):
        rng = random.Random(227)
        for p in PRIMES:
            signs = random_signs(rng, 5)
            one, other = (drawn(rng, p, random_heap(rng, 5, 8), signs) for _ in range(2))
            nought = tuple(nought_table(a, b) for a, b in zip(one[1], other[1]))
            empty = (p, (0,) * 5, tuple((sign, ()) for sign in signs))
            self.assertEqual(led_line(one, other, nought), (empty, tuple(((),) * width for width in one[1]), ((),) * 5))
            self.assertEqual(lost_line(one, other, nought), (one, tuple(same_rows(width) for width in one[1])))
            self.assertEqual(rest_line(one, other, nought), (other, tuple(same_rows(width) for width in other[1])))

    def test_wide_and_long(self):
        rng = random.Random(228)
        for p in PRIMES:
            signs = random_signs(rng, 17)
            heap = tuple((a, a + 9, 1) for a in range(8))
            one, other = drawn(rng, p, heap, signs), drawn(rng, p, ((0, 16, 8),), signs)
            crossing = random_crossing(rng, one, other)
            line, onto, into = led_line(one, other, crossing)
            self.assertEqual(behind_crossing(one, line, other, onto, into), crossing)
            lost, rest = lost_line(one, other, crossing), rest_line(one, other, crossing)
            self.tells(True, is_crossing, lost[0], one, lost[1])
            self.tells(True, is_crossing, other, rest[0], rest[1])


class TestErrors(Checks):
    def test_errors(self):
        strangers = [(3, (1, 1), ((">", ((1,),)),)), (2, (1, 1), (("<", ((1,),)),)), (2, (1,), ())]
        for call in (led_line, lost_line, rest_line):
            for odd in odd_values():
                if not is_line(odd):
                    self.raises(BadLine, odd, call, odd, None, None)
                    self.raises(BadLine, odd, call, ONE, odd, None)
                self.raises(BadCrossing, odd, call, ONE, OTHER, odd)
            for stranger in strangers:
                self.raises_tuple(BadPair, (ONE, stranger), call, ONE, stranger, None)
                self.raises_tuple(BadPair, (stranger, ONE), call, stranger, ONE, None)
            for wrong in (list(CROSSING), CROSSING[:1], (((1,),), ((1,),)), (((True,),), ((),))):
                self.raises(BadCrossing, wrong, call, ONE, OTHER, wrong)
            self.raises(BadCrossing, CROSSING, call, OTHER, ONE, CROSSING)


if __name__ == "__main__":
    unittest.main()
