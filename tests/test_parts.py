"""[4], stage 6: parts told by their bases, held against all their entries."""

import itertools
import random
import unittest

from staybars.errors import BadEntries, BadEntry, BadPart, NotWithin
from staybars.parts import fetched_part, is_part, is_rest_beyond, led_part, lies_within, meet_of, part_holds, part_of
from staybars.parts import rest_beyond, sum_of, whole_room
from tests.helpers import Checks, nested, odd_values, shown
from tests.rooms import PRIMES, all_bases, all_entries, base_of_set, is_base, lead, random_base_table, random_entry
from tests.rooms import random_part, random_table, scale, span

ROOMS = [(p, width) for p in PRIMES for width in range(5) if p ** width <= 130]


class TestIsPart(Checks):
    def test_all_tuples_of_entries_of_small_rooms(self):
        for p, width in [(2, 0), (2, 1), (2, 2), (2, 3), (3, 1), (3, 2), (5, 1), (7, 1)]:
            entries = all_entries(p, width)
            for many in range(width + 2):
                for value in itertools.product(entries, repeat=many):
                    self.tells(is_base(width, value), is_part, p, width, value)

    def test_each_part_has_just_one_base(self):
        for p, width, many in [(2, 3, 16), (2, 4, 67), (3, 2, 6), (3, 3, 28), (5, 2, 8), (7, 2, 10), (2, 0, 1)]:
            bases = all_bases(p, width)
            held = {tuple(sorted(span(p, width, base))) for base in bases}
            self.assertEqual([len(bases), len(held)], [many, many])

    def test_one_number_or_one_entry_amiss(self):
        rng = random.Random(61)
        for p, width in ROOMS:
            for _ in range(6):
                base = random_part(rng, p, width)
                self.tells(True, is_part, p, width, base)
                for i in range(len(base)):
                    for j in range(width):
                        for number in range(-1, p + 1):
                            row = base[i][:j] + (number,) + base[i][j + 1:]
                            value = base[:i] + (row,) + base[i + 1:]
                            wanted = all(0 <= n < p for n in row) and is_base(width, value)
                            self.tells(wanted, is_part, p, width, value)
                    self.tells(False, is_part, p, width, base[:i] + (base[i],) + base[i:])
                    self.tells(False, is_part, p, width, base[:i] + ((0,) * width,) + base[i:])
                    if i > 0:
                        self.tells(False, is_part, p, width, base[:i - 1] + (base[i], base[i - 1]) + base[i + 1:])

    def test_widths_0_and_8(self):
        self.tells(True, is_part, 2, 0, ())
        self.tells(False, is_part, 2, 0, ((),))
        for p in PRIMES:
            self.tells(True, is_part, p, 8, whole_room(8))
            self.tells(False, is_part, p, 8, whole_room(8) + ((0,) * 8,))
            self.tells(False, is_part, p, 8, whole_room(7))

    def test_kinds_are_strict(self):
        for value in (
            [(1, 0)], ([1, 0],), ((True, 0),), ((1, False),), ((1, "0"),), (None,), None, "ab", {}, {(1, 0): 1}, ((1,),),
            ((1, 0, 0),), nested(tuple, 200), ((1, 10 ** 40),), ((1, -10 ** 40),), (((1, 0),),),
        ):
            self.tells(False, is_part, 2, 2, value)
        for odd in odd_values():
            self.tells(shown(odd) in ("()", "((0, 0, 1),)"), is_part, 3, 3, odd)


class TestPartOf(Checks):
    def test_least_part_of_many_entries(self):
        rng = random.Random(62)
        for p, width in ROOMS:
            for many in range(7):
                entries = [random_entry(rng, p, width) for _ in range(many)]
                wanted = base_of_set(p, width, span(p, width, entries))
                self.assertEqual(part_of(p, width, entries), wanted)
                self.assertEqual(part_of(p, width, tuple(entries)), wanted)
                self.assertEqual(part_of(p, width, entries[::-1] + entries), wanted)
            self.assertEqual(part_of(p, width, all_entries(p, width)), whole_room(width))

    def test_no_entries(self):
        for width in range(9):
            self.assertEqual([part_of(7, width, []), part_of(7, width, ())], [(), ()])
            self.assertEqual(part_of(7, width, [(0,) * width] * 3), ())

    def test_wide_rooms(self):
        rng = random.Random(63)
        for p in PRIMES:
            for many in (3, 8):
                rows = random_base_table(rng, p, 8)[:many]
                told = part_of(p, 8, list(rows) + [scale(p, 2, rows[0])])
                self.assertTrue(is_base(8, told))
                self.assertEqual(len(told), many)
                self.assertTrue(all(part_holds(p, 8, told, row) for row in rows))

    def test_errors(self):
        for value in (None, True, 0, "", "ab", {}, {(0, 0): 1}, 10 ** 40):
            self.raises(BadEntries, value, part_of, 3, 2, value)
        for wrong in ((0,), (0, 3), (0, True), [0, 1], None, "01", 7, (), nested(list, 200)):
            self.raises(BadEntry, wrong, part_of, 3, 2, [(0, 1), wrong, (0, 9)])
            self.raises(BadEntry, wrong, part_of, 3, 2, (wrong, None))

    def test_whole_room(self):
        for width in range(9):
            self.assertEqual(whole_room(width), tuple(tuple(int(i == j) for j in range(width)) for i in range(width)))


class TestSetsOfEntries(Checks):
    def test_all_parts_of_small_rooms(self):
        for p, width in [(2, 0), (2, 1), (2, 2), (2, 3), (3, 2), (5, 1), (7, 1)]:
            bases = all_bases(p, width)
            held = {base: span(p, width, base) for base in bases}
            for one in bases:
                for entry in all_entries(p, width):
                    self.tells(entry in held[one], part_holds, p, width, one, entry)
                for other in bases:
                    self.held_against(p, width, one, other, held[one], held[other])

    def test_random_parts(self):
        rng = random.Random(64)
        for p, width in ROOMS:
            for _ in range(12):
                one, other = random_part(rng, p, width), random_part(rng, p, width)
                self.held_against(p, width, one, other, span(p, width, one), span(p, width, other))

    def held_against(self, p, width, one, other, in_one, in_other):
        self.tells(in_one <= in_other, lies_within, p, width, one, other)
        self.assertEqual(sum_of(p, width, one, other), base_of_set(p, width, span(p, width, one + other)))
        self.assertEqual(meet_of(p, width, one, other), base_of_set(p, width, in_one & in_other))

    def test_wide_parts(self):
        rng = random.Random(65)
        for p in PRIMES:
            rows = random_base_table(rng, p, 8)
            one, other = part_of(p, 8, rows[:5]), part_of(p, 8, rows[3:7])
            self.assertEqual(meet_of(p, 8, one, other), part_of(p, 8, rows[3:5]))
            self.assertEqual(sum_of(p, 8, one, other), part_of(p, 8, rows[:7]))
            self.assertEqual(meet_of(p, 8, one, whole_room(8)), one)
            self.tells(True, lies_within, p, 8, part_of(p, 8, rows[3:5]), one)
            self.tells(False, lies_within, p, 8, one, other)


class TestLedAndFetched(Checks):
    def test_against_all_entries(self):
        rng = random.Random(66)
        for p, a in ROOMS:
            for b in range(4):
                for _ in range(6):
                    table = random_table(rng, p, a, b)
                    piece = random_part(rng, p, a)
                    led = {lead(p, b, table, entry) for entry in span(p, a, piece)}
                    self.assertEqual(led_part(p, b, table, piece), base_of_set(p, b, led))
                    if p ** b < 400:
                        there = random_part(rng, p, b)
                        held = span(p, b, there)
                        fetched = {entry for entry in all_entries(p, a) if lead(p, b, table, entry) in held}
                        self.assertEqual(fetched_part(p, b, table, there), base_of_set(p, a, fetched))

    def test_widths_0_and_8(self):
        self.assertEqual(led_part(3, 8, (), ()), ())
        self.assertEqual(led_part(3, 0, ((),) * 8, whole_room(8)), ())
        self.assertEqual(fetched_part(3, 8, (), whole_room(8)), ())
        self.assertEqual(fetched_part(3, 0, ((),) * 8, ()), whole_room(8))
        self.assertEqual(fetched_part(3, 8, whole_room(8), ((1,) * 8,)), ((1,) * 8,))
        self.assertEqual(led_part(3, 8, whole_room(8)[::-1], ((1,) + (0,) * 7,)), ((0,) * 7 + (1,),))

    def test_parts_of_the_wrong_room(self):
        table = ((0, 1), (1, 1), (0, 0))
        self.raises(BadPart, ((1, 0),), led_part, 2, 2, table, ((1, 0),))
        piece = ((1, 0, 0),)
        self.raises(BadPart, piece, fetched_part, 2, 2, table, piece)


class TestRestBeyond(Checks):
    def test_rest_beyond_is_right(self):
        rng = random.Random(67)
        for p, width in ROOMS + [(2, 8), (3, 8), (5, 8), (7, 8)]:
            for _ in range(10):
                if width == 8:
                    rows = random_base_table(rng, p, 8)
                    greater, smaller = part_of(p, 8, rows[:6]), part_of(p, 8, rows[:rng.randrange(7)])
                else:
                    greater = random_part(rng, p, width)
                    held = sorted(span(p, width, greater))
                    smaller = base_of_set(p, width, span(p, width, [rng.choice(held) for _ in range(rng.randrange(3))]))
                rest = rest_beyond(p, width, smaller, greater)
                self.assertIs(type(rest), list)
                self.tells(True, is_rest_beyond, p, width, smaller, greater, rest)
                self.assertEqual(len(rest), len(greater) - len(smaller))
                self.assertEqual(part_of(p, width, list(smaller) + rest), greater)
                self.assertEqual(rest_beyond(p, width, smaller, greater), rest)
                self.tells(False, is_rest_beyond, p, width, smaller, greater, tuple(rest))
                self.tells(False, is_rest_beyond, p, width, smaller, greater, rest + [(0,) * width])
                if rest:
                    self.tells(False, is_rest_beyond, p, width, smaller, greater, rest[1:])
                    self.tells(False, is_rest_beyond, p, width, smaller, greater, rest[1:] + [(0,) * width])

    def test_every_such_list(self):
        for p, width in [(2, 2), (3, 2), (2, 3)]:
            for greater in all_bases(p, width):
                for smaller in all_bases(p, width):
                    if span(p, width, smaller) <= span(p, width, greater):
                        self.every_list(p, width, smaller, greater)

    def every_list(self, p, width, smaller, greater):
        held = span(p, width, greater)
        many = len(greater) - len(smaller)
        for value in itertools.product(all_entries(p, width), repeat=min(many, 2)):
            wanted = len(value) == many and span(p, width, smaller + value) == held
            self.tells(wanted, is_rest_beyond, p, width, smaller, greater, list(value))

    def test_entries_beyond_the_greater_part(self):
        self.tells(False, is_rest_beyond, 3, 3, ((1, 0, 0),), ((1, 0, 0), (0, 1, 0)), [(0, 0, 1)])
        self.tells(False, is_rest_beyond, 3, 3, ((1, 0, 0),), ((1, 0, 0), (0, 1, 0)), [(0, 1, 1)])
        self.tells(True, is_rest_beyond, 3, 3, ((1, 0, 0),), ((1, 0, 0), (0, 1, 0)), [(2, 2, 0)])

    def test_any_value(self):
        for odd in odd_values():
            self.tells(type(odd) is list and odd == [], is_rest_beyond, 3, 2, ((1, 0),), ((1, 0),), odd)
        whole = whole_room(2)
        for value in ([[0, 1]], [(0, True)], [(0, 3)], [None], ["01"], [(0, 1, 0)], [(1,)], [()], ((0, 1),), {(0, 1): 1}):
            self.tells(False, is_rest_beyond, 3, 2, ((1, 0),), whole, value)

    def test_not_within_stands_behind_both_parts(self):
        for call, more in ((rest_beyond, ()), (is_rest_beyond, ([],))):
            for smaller, greater in [(((1, 0),), ((0, 1),)), (((1, 0), (0, 1)), ((1, 0),)), (((1, 2),), ())]:
                self.raises(NotWithin, smaller, call, 3, 2, smaller, greater, *more)
                wrong = ((2, 0),)
                self.raises(BadPart, wrong, call, 3, 2, smaller, wrong, *more)
                self.raises(BadPart, wrong, call, 3, 2, wrong, greater, *more)


class TestErrors(Checks):
    def test_wrong_parts(self):
        for wrong in (None, [], [(1, 0)], ((2, 0),), ((0, 0),), ((0, 1), (1, 0)), ((1, 1), (0, 1)), ((1,),), "ab", {}, 3):
            self.raises(BadPart, wrong, part_holds, 3, 2, wrong, (0, 0))
            for call in (lies_within, sum_of, meet_of):
                self.raises(BadPart, wrong, call, 3, 2, wrong, ())
                self.raises(BadPart, wrong, call, 3, 2, (), wrong)
            self.raises(BadPart, wrong, led_part, 3, 1, ((1,), (2,)), wrong)
            self.raises(BadPart, wrong, fetched_part, 3, 2, ((1, 1),), wrong)


if __name__ == "__main__":
    unittest.main()
