"""[2], stage 4: primes and entries."""

import unittest

from staybars.entries import added_entries, back_number, is_entry, is_prime, nought_entry, taken_times
from staybars.errors import BadEntry, BadNumber, BadPrime, BadWidth
from tests.helpers import Checks, nested, odd_values
from tests.rooms import PRIMES, all_entries


class TestPrimes(Checks):
    def test_primes(self):
        for number in range(-20, 60):
            self.tells(number in PRIMES, is_prime, number)

    def test_any_value(self):
        for odd in odd_values():
            self.tells(type(odd) is int and odd in PRIMES, is_prime, odd)
        for value in ("2", (2,), [2], {2: 3}, 10 ** 3000, -2, True, nested(tuple, 200)):
            self.tells(False, is_prime, value)


class TestIsEntry(Checks):
    def test_all_entries_of_small_rooms(self):
        for p in PRIMES:
            for width in range(4):
                for other in range(4):
                    for entry in all_entries(p, other)[:400]:
                        self.tells(width == other, is_entry, p, width, entry)

    def test_numbers_at_both_ends(self):
        for p in PRIMES:
            for width in (1, 8):
                for place in range(width):
                    for number in (-1, 0, p - 1, p):
                        entry = tuple(number if k == place else 0 for k in range(width))
                        self.tells(0 <= number < p, is_entry, p, width, entry)

    def test_widths_at_both_ends(self):
        self.tells(True, is_entry, 2, 0, ())
        self.tells(True, is_entry, 2, 8, (1,) * 8)
        self.tells(False, is_entry, 2, 8, (1,) * 9)
        for width in (-1, 9, True, False, None, "2", 10 ** 40):
            self.raises(BadWidth, width, is_entry, 2, width, ())
            self.raises(BadWidth, width, nought_entry, width)

    def test_kinds_are_strict(self):
        for value in ([0, 1], (False, 1), (0, True), ("0", 1), (None, 0), ((0,), 1), "01", {0: 0, 1: 1}, 10):
            self.tells(False, is_entry, 2, 2, value)
        for odd in odd_values():
            self.tells(odd == () and type(odd) is tuple, is_entry, 3, 0, odd)

    def test_nought(self):
        for width in range(9):
            self.assertEqual(nought_entry(width), tuple([0] * width))


class TestSums(Checks):
    def test_sums_of_all_entries(self):
        for p in PRIMES:
            for width in (0, 1, 2):
                for one in all_entries(p, width):
                    for other in all_entries(p, width):
                        told = added_entries(p, one, other)
                        self.assertEqual(told, tuple((one[k] + other[k]) % p for k in range(width)))
        self.assertEqual(added_entries(7, (6,) * 8, (6,) * 8), (5,) * 8)

    def test_times_any_number(self):
        for p in PRIMES:
            for number in (0, 1, p - 1, p, p + 1, -1, -p, -3 * p - 1, 10 ** 50 + 1, -10 ** 50):
                for entry in all_entries(p, 2):
                    told = taken_times(p, number, entry)
                    self.assertEqual(told, tuple((number * n) % p for n in entry))
                self.assertEqual(taken_times(p, number, ()), ())
        self.assertEqual(taken_times(2, 10 ** 5000 + 1, (1,) * 8), (1,) * 8)

    def test_times_is_added_so_often(self):
        total = nought_entry(2)
        for number in range(20):
            self.assertEqual(taken_times(7, number, (3, 5)), total)
            total = added_entries(7, total, (3, 5))

    def test_back_number(self):
        for p in PRIMES:
            for number in range(1, p):
                back = back_number(p, number)
                self.assertEqual((back * number) % p, 1)
                self.assertIn(back, range(1, p))
            for number in (0, p, p + 1, -1, 1 - p, True, False, None, "1", 10 ** 40, [1], (1,)):
                self.raises(BadNumber, number, back_number, p, number)


class TestErrors(Checks):
    def test_wrong_entries(self):
        for entry in ([1, 0], (1, 3), (-1, 0), (True, 0), "10", None, (0,) * 9, ((1,), 0), 1, {}, nested(tuple, 200)):
            self.raises(BadEntry, entry, added_entries, 3, entry, (0, 1))
            self.raises(BadEntry, entry, added_entries, 3, (0, 1), entry)
            self.raises(BadEntry, entry, taken_times, 3, 1, entry)

    def test_entries_of_two_widths(self):
        for entry in ((), (0,), (0, 0, 0)):
            self.raises(BadEntry, entry, added_entries, 3, (0, 1), entry)
        for width in range(9):
            self.assertEqual(added_entries(2, (1,) * width, (1,) * width), (0,) * width)
            self.assertEqual(taken_times(2, 3, (1,) * width), (1,) * width)

    def test_wrong_numbers(self):
        for number in (None, True, False, "2", (2,), [2], {}):
            self.raises(BadNumber, number, taken_times, 3, number, (0, 1))

    def test_wrong_primes(self):
        for odd in odd_values():
            if not (type(odd) is int and odd in PRIMES):
                self.raises(BadPrime, odd, is_entry, odd, None, None)
                self.raises(BadPrime, odd, added_entries, odd, None, None)
                self.raises(BadPrime, odd, taken_times, odd, None, None)
                self.raises(BadPrime, odd, back_number, odd, None)


if __name__ == "__main__":
    unittest.main()
