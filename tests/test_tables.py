"""[3] and the bases of [4], stage 5: tables, held against a count over all entries."""

import itertools
import random
import unittest

from staybars.errors import BadEntry, BadPrime, BadTable, BadWidth
from staybars.tables import back_of, entry_to, is_table, led_entry, lost_part, mirrored_table, same_table
from staybars.tables import table_behind, width_of
from tests.helpers import Checks, nested, odd_values
from tests.rooms import PRIMES, all_entries, base_of_set, is_base, lead, random_base_table, random_table, width_in

SMALL = [(p, a, b) for p in PRIMES for a in range(4) for b in range(4) if p ** a < 200]


def random_tables(seed, often):
    """Tables of all small sizes, with p and their widths."""
    rng = random.Random(seed)
    for p, a, b in SMALL:
        for _ in range(often):
            yield p, a, b, random_table(rng, p, a, b)


def all_small_tables():
    """All tables with p = 2 and widths up to 2."""
    for a in range(3):
        for b in range(3):
            for table in itertools.product(all_entries(2, b), repeat=a):
                yield 2, a, b, table


class TestIsTable(Checks):
    def test_sizes(self):
        for p, a, b, table in random_tables(21, 2):
            for other in range(9):
                self.tells(other == a, is_table, p, other, b, table)
                self.tells(other == b or a == 0, is_table, p, a, other, table)

    def test_widths_0_and_8(self):
        self.tells(True, is_table, 2, 0, 8, ())
        self.tells(True, is_table, 2, 8, 0, ((),) * 8)
        self.tells(True, is_table, 7, 8, 8, ((6,) * 8,) * 8)
        self.tells(False, is_table, 7, 8, 8, ((6,) * 8,) * 7 + ((7,) * 8,))
        self.tells(False, is_table, 7, 8, 8, ((6,) * 8,) * 7 + ((6,) * 7,))
        self.tells(False, is_table, 2, 0, 0, ((),))

    def test_kinds_are_strict(self):
        for value in (
            [(0, 1), (1, 0)], ([0, 1], (1, 0)), ((0, 1), [1, 0]), ((0, True), (1, 0)), ((0, 1), (1, None)), None, "ab",
            ("01", "10"), ((0, 1), ()), ((0, 1),), ((0, 1), (1, 2)), ((0, 1), (1, -1)), {0: (0, 1), 1: (1, 0)},
        ):
            self.tells(False, is_table, 2, 2, 2, value)
        for odd in odd_values():
            self.tells(type(odd) is tuple and odd == (), is_table, 3, 0, 4, odd)

    def test_errors(self):
        for width in (-1, 9, True, None, "1"):
            self.raises(BadWidth, width, is_table, 2, width, None, ())
            self.raises(BadWidth, width, is_table, 2, 0, width, ())
        for p in (1, 4, 11, True, None):
            self.raises(BadPrime, p, is_table, p, None, None, ())


class TestLed(Checks):
    def test_each_entry(self):
        for p, a, b, table in itertools.chain(random_tables(22, 4), all_small_tables()):
            for entry in all_entries(p, a):
                self.assertEqual(led_entry(p, b, table, entry), lead(p, b, table, entry))

    def test_wide_tables(self):
        rng = random.Random(23)
        for p in PRIMES:
            table = random_table(rng, p, 8, 8)
            entry = tuple(rng.randrange(p) for _ in range(8))
            self.assertEqual(led_entry(p, 8, table, entry), lead(p, 8, table, entry))
        self.assertEqual(led_entry(5, 8, (), ()), (0,) * 8)
        self.assertEqual(led_entry(5, 0, ((),) * 8, (4,) * 8), ())

    def test_one_behind_the_other(self):
        rng = random.Random(24)
        for p, a, b, first in random_tables(25, 3):
            for c in range(4):
                second = random_table(rng, p, b, c)
                both = table_behind(p, b, c, first, second)
                self.assertTrue(is_table(p, a, c, both))
                for entry in all_entries(p, a):
                    self.assertEqual(lead(p, c, both, entry), lead(p, c, second, lead(p, b, first, entry)))

    def test_one_behind_the_other_at_the_ends(self):
        self.assertEqual(table_behind(3, 0, 2, ((), ()), ()), ((0, 0), (0, 0)))
        self.assertEqual(table_behind(3, 2, 0, ((1, 2),), ((), ())), ((),))
        self.assertEqual(table_behind(3, 2, 1, (), ((1,), (2,))), ())
        for second in ((), ((1,),), ((1,), (2,), (0,)), ((1, 0), (0, 1)), [(1,), (2,)], ((1,), (3,)), ((1,), (True,))):
            self.raises(BadTable, second, table_behind, 3, 2, 1, ((1, 2),), second)

    def test_same_table(self):
        for width in range(9):
            self.assertEqual(same_table(width), tuple(tuple(int(i == j) for j in range(width)) for i in range(width)))
        for width in (-1, 9, True, False, None, "2", 10 ** 40, (2,)):
            self.raises(BadWidth, width, same_table, width)

    def test_mirrored(self):
        for p, a, b, table in random_tables(26, 3):
            told = mirrored_table(p, b, table)
            self.assertEqual(told, tuple(tuple(table[i][j] for i in range(a)) for j in range(b)))
            self.assertEqual(mirrored_table(p, a, told), table if b > 0 else ((),) * a)
        self.assertEqual(mirrored_table(2, 8, ()), ((),) * 8)
        self.assertEqual(mirrored_table(2, 0, ((),) * 8), ())


class TestCounted(Checks):
    def test_width_lost_and_entry_to(self):
        for p, a, b, table in itertools.chain(random_tables(27, 6), all_small_tables()):
            entries = all_entries(p, a)
            image = {lead(p, b, table, entry) for entry in entries}
            self.assertEqual(width_of(p, b, table), width_in(p, image))
            lost = {entry for entry in entries if not any(lead(p, b, table, entry))}
            told = lost_part(p, b, table)
            self.assertTrue(is_base(a, told))
            self.assertEqual(told, base_of_set(p, a, lost))
            for entry in all_entries(p, b):
                found = entry_to(p, b, table, entry)
                if entry in image:
                    self.assertTrue(type(found) is tuple and found in entries)
                    self.assertEqual(lead(p, b, table, found), entry)
                    self.assertEqual(entry_to(p, b, tuple(list(table)), entry), found)
                else:
                    self.assertIsNone(found)

    def test_width_0(self):
        self.assertEqual([width_of(2, 8, ()), lost_part(2, 8, ()), entry_to(2, 8, (), (0,) * 8)], [0, (), ()])
        self.assertIsNone(entry_to(2, 8, (), (0,) * 7 + (1,)))
        self.assertEqual(lost_part(2, 0, ((),) * 8), same_table(8))
        self.assertEqual(len(entry_to(2, 0, ((),) * 8, ())), 8)

    def test_width_8(self):
        rng = random.Random(28)
        for p in PRIMES:
            table = random_base_table(rng, p, 8)
            self.assertEqual([width_of(p, 8, table), lost_part(p, 8, table)], [8, ()])
            entry = tuple(rng.randrange(p) for _ in range(8))
            self.assertEqual(entry_to(p, 8, table, lead(p, 8, table, entry)), entry)
            self.assertEqual(width_of(p, 8, table[:5] + table[:3]), 5)
            self.assertEqual(len(lost_part(p, 8, table[:5] + table[:3])), 3)


class TestBack(Checks):
    def test_all_small_squares(self):
        for p, width in [(2, 0), (2, 1), (2, 2), (3, 1), (3, 2), (7, 1), (5, 1)]:
            same = same_table(width)
            for table in itertools.product(all_entries(p, width), repeat=width):
                led = {lead(p, width, table, entry) for entry in all_entries(p, width)}
                back = back_of(p, table)
                if len(led) == p ** width:
                    self.assertTrue(is_table(p, width, width, back))
                    self.assertEqual(table_behind(p, width, width, table, back), same)
                    self.assertEqual(table_behind(p, width, width, back, table), same)
                    self.assertEqual(back_of(p, back), table)
                else:
                    self.assertIsNone(back)

    def test_wide_squares(self):
        rng = random.Random(29)
        for p in PRIMES:
            for width in (3, 5, 8):
                table = random_base_table(rng, p, width)
                back = back_of(p, table)
                self.assertEqual(table_behind(p, width, width, table, back), same_table(width))
                self.assertIsNone(back_of(p, table[:-1] + (table[0],)))
                self.assertIsNone(back_of(p, table[:-1] + ((0,) * width,)))

    def test_no_squares(self):
        for table in (((0, 1),), ((0,), (1,)), ((),), [(1,)], ((1, 0), (0, 2)), ((1,) * 9,) * 9, None, ((True,),), "a"):
            self.raises(BadTable, table, back_of, 2, table)


class TestErrors(Checks):
    def test_wrong_tables(self):
        tables = (
            None, [], [(0, 1)], ((0, 1), [0, 1]), ((0,),), ((0, 1, 0),), ((0, 2),), ((0, -1),), ((0, True),), ((0, 1),) * 9,
            "ab", {}, 7, ((),), nested(tuple, 200), (None,),
        )
        for table in tables:
            self.raises(BadTable, table, led_entry, 2, 2, table, None)
            self.raises(BadTable, table, table_behind, 2, 2, 0, table, None)
            self.raises(BadTable, table, mirrored_table, 2, 2, table)
            self.raises(BadTable, table, width_of, 2, 2, table)
            self.raises(BadTable, table, lost_part, 2, 2, table)
            self.raises(BadTable, table, entry_to, 2, 2, table, None)

    def test_wrong_entries(self):
        table = ((0, 1), (1, 1), (0, 0))
        for entry in ((0, 1), (0, 1, 0, 1), [0, 1, 0], (0, 1, 2), (0, 1, True), None, "010", 5):
            self.raises(BadEntry, entry, led_entry, 2, 2, table, entry)
        for entry in ((0,), (0, 1, 0), [0, 1], (0, 2), (0, True), None, "01", 5):
            self.raises(BadEntry, entry, entry_to, 2, 2, table, entry)


if __name__ == "__main__":
    unittest.main()
