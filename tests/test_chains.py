"""[5], stage 7: chains of rooms, held against the entries that their parts hold."""

import itertools
import random
import unittest

from staybars.chains import fetched_chain, is_chain, is_one_base, led_chain, meets_of, one_base, shares_of, step_of
from staybars.errors import BadChain, BadEntry
from tests.helpers import Checks, nested, odd_values
from tests.rooms import PRIMES, all_bases, all_entries, base_of_set, lead, random_base_table, random_chain
from tests.rooms import random_table, span, width_in

ROOMS = [(p, width) for p in PRIMES for width in range(5) if p ** width <= 130]
WHOLE = ((1, 0), (0, 1))


def wide_chain(rng, p, sizes):
    """A chain of a room of width 8 with parts as wide as told, from a base of any kind."""
    rows = random_base_table(rng, p, 8)
    whole = tuple(tuple(int(i == j) for j in range(8)) for i in range(8))
    chain = []
    for size in sizes:
        base = ()
        for row in rows[:size]:
            base = grown(p, base, row)
        chain.append(base)
    return tuple(chain) + (whole,)


def grown(p, base, row):
    """A base with one entry more, by taking rows off one another."""
    rows = [list(other) for other in base] + [list(row)]
    done = 0
    for at in range(8):
        found = [k for k in range(done, len(rows)) if rows[k][at]]
        if found:
            rows[done], rows[found[0]] = rows[found[0]], rows[done]
            back = [n for n in range(p) if n * rows[done][at] % p == 1][0]
            rows[done] = [n * back % p for n in rows[done]]
            for k in range(len(rows)):
                if k != done:
                    rows[k] = [(x - rows[k][at] * y) % p for x, y in zip(rows[k], rows[done])]
            done += 1
    return tuple(tuple(other) for other in rows[:done])


def chain_by_entries(p, width, value):
    """Whether a tuple of bases is a chain, by the entries that they hold."""
    held = [span(p, width, base) for base in value]
    if width == 0:
        return value == ()
    steps = all(held[k] < held[k + 1] for k in range(len(held) - 1))
    return bool(value) and steps and len(held[0]) > 1 and len(held[-1]) == p ** width


class TestIsChain(Checks):
    def test_all_tuples_of_parts_of_small_rooms(self):
        for p, width in [(2, 0), (2, 1), (2, 2), (3, 1), (3, 2), (7, 1)]:
            bases = all_bases(p, width)
            for many in range(4):
                for value in itertools.product(bases, repeat=many):
                    self.tells(chain_by_entries(p, width, value), is_chain, p, width, value)

    def test_random_chains_with_one_thing_amiss(self):
        rng = random.Random(71)
        for p, width in ROOMS:
            for _ in range(8):
                chain = random_chain(rng, p, width)
                self.tells(True, is_chain, p, width, chain)
                for k in range(len(chain)):
                    self.tells(False, is_chain, p, width, chain[:k] + ((),) + chain[k:])
                    self.tells(False, is_chain, p, width, chain[:k] + (chain[k],) + chain[k:])
                    if k > 0:
                        self.tells(False, is_chain, p, width, chain[:k - 1] + (chain[k], chain[k - 1]) + chain[k + 1:])
                if chain:
                    self.tells(False, is_chain, p, width, chain[:-1])
                    self.tells(False, is_chain, p, width, list(chain))
                    self.tells(True, is_chain, p, width, chain[1:] or chain)

    def test_widths_0_1_and_8(self):
        rng = random.Random(72)
        self.tells(True, is_chain, 2, 0, ())
        self.tells(False, is_chain, 2, 0, ((),))
        self.tells(False, is_chain, 2, 1, ())
        self.tells(True, is_chain, 2, 1, (((1,),),))
        for p in PRIMES:
            chain = wide_chain(rng, p, (1, 2, 3, 4, 5, 6, 7))
            self.tells(True, is_chain, p, 8, chain)
            self.tells(True, is_chain, p, 8, chain[3:])
            self.tells(False, is_chain, p, 8, chain[:3] + (chain[4], chain[3]) + chain[5:])

    def test_any_value(self):
        for odd in odd_values():
            self.tells(type(odd) is tuple and odd == (), is_chain, 3, 0, odd)
            self.tells(odd == (((1,),),), is_chain, 3, 1, odd)
        for value in (
            [WHOLE], (list(WHOLE),), ([(1, 0)], WHOLE), (((True, 0),), WHOLE), (None, WHOLE), (WHOLE, None), WHOLE, "ab",
            (((2, 0),), WHOLE), (((0, 1), (1, 0)),), nested(tuple, 200), {0: WHOLE},
        ):
            self.tells(False, is_chain, 3, 2, value)


class TestSteps(Checks):
    def test_step_of_all_entries(self):
        rng = random.Random(73)
        for p, width in ROOMS:
            for _ in range(4):
                chain = random_chain(rng, p, width)
                held = [span(p, width, base) for base in chain]
                for entry in all_entries(p, width):
                    if any(entry):
                        wanted = min(k for k in range(len(chain)) if entry in held[k])
                        self.assertEqual(step_of(p, width, chain, entry), wanted)
                    else:
                        self.assertIsNone(step_of(p, width, chain, entry))
        self.assertIsNone(step_of(2, 0, (), ()))

    def test_step_of_wrong_entries(self):
        for entry in ((0,), (0, 3), (True, 0), [0, 1], None, "01", (0, 0, 0)):
            self.raises(BadEntry, entry, step_of, 3, 2, (WHOLE,), entry)


class TestTwoChains(Checks):
    def pairs(self):
        rng = random.Random(74)
        for p, width in ROOMS:
            for _ in range(8):
                yield p, width, random_chain(rng, p, width), random_chain(rng, p, width)
            chain = random_chain(rng, p, width)
            yield p, width, chain, chain
        for p, width in [(2, 1), (2, 2), (3, 2)]:
            bases = all_bases(p, width)
            chains = [value for many in (1, 2) for value in itertools.product(bases, repeat=many)]
            chains = [value for value in chains if chain_by_entries(p, width, value)]
            for one, other in itertools.product(chains, repeat=2):
                yield p, width, one, other

    def test_meets_and_shares(self):
        for p, width, one, other in self.pairs():
            first = [span(p, width, base) for base in one]
            second = [span(p, width, base) for base in other]
            meets = [[width_in(p, x & y) for y in second] for x in first]
            self.assertEqual(meets_of(p, width, one, other), meets)
            d = {(i, j): meets[i][j] for i in range(len(one)) for j in range(len(other))}
            shares = [
                [
                    d[i, j] - d.get((i - 1, j), 0) - d.get((i, j - 1), 0) + d.get((i - 1, j - 1), 0)
                    for j in range(len(other))
                ]
                for i in range(len(one))
            ]
            self.assertEqual(shares_of(p, width, one, other), shares)
            self.assertEqual(sum(sum(row) for row in shares), width)

    def test_one_base(self):
        for p, width, one, other in self.pairs():
            base = one_base(p, width, one, other)
            self.assertIs(type(base), tuple)
            self.assertEqual(len(base), width)
            self.assertTrue(self.is_one_base_by_entries(p, width, one, other, base))
            self.tells(True, is_one_base, p, width, one, other, base)
            self.tells(False, is_one_base, p, width, one, other, list(base))
            self.assertEqual(one_base(p, width, one, other), base)
            shares = shares_of(p, width, one, other)
            counted = [[0 for _ in other] for _ in one]
            for entry in base:
                counted[step_of(p, width, one, entry)][step_of(p, width, other, entry)] += 1
            self.assertEqual(counted, shares)

    def is_one_base_by_entries(self, p, width, one, other, value):
        for part in one + other:
            held = span(p, width, part)
            inside = [entry for entry in value if entry in held]
            if len(inside) != len(part) or span(p, width, inside) != held:
                return False
        return True

    def test_is_one_base_of_all_tuples(self):
        line, other = (((1, 0),), WHOLE), (((1, 2),), WHOLE)
        for one, two in [(line, other), (line, line), ((WHOLE,), other), ((WHOLE,), (WHOLE,))]:
            for value in itertools.product(all_entries(3, 2), repeat=2):
                wanted = self.is_one_base_by_entries(3, 2, one, two, value)
                self.tells(wanted, is_one_base, 3, 2, one, two, value)
        cube = (((1, 0, 1),), ((1, 0, 0), (0, 0, 1)), ((1, 0, 0), (0, 1, 0), (0, 0, 1)))
        tower = (((0, 1, 1),), ((1, 0, 1), (0, 1, 1)), ((1, 0, 0), (0, 1, 0), (0, 0, 1)))
        for value in itertools.product(all_entries(2, 3), repeat=3):
            wanted = self.is_one_base_by_entries(2, 3, cube, tower, value)
            self.tells(wanted, is_one_base, 2, 3, cube, tower, value)

    def test_is_one_base_of_any_value(self):
        one = (((1, 0),), WHOLE)
        for odd in odd_values():
            self.tells(False, is_one_base, 3, 2, one, one, odd)
            self.tells(type(odd) is tuple and odd == (), is_one_base, 3, 0, (), (), odd)
        for value in (
            [(1, 0), (0, 1)], ((1, 0), [0, 1]), ((1, 0), (0, True)), ((1, 0),), ((1, 0), (0, 1), (0, 0)), ((1, 0), None),
            ((1, 0), (0, 3)), ((1, 0), (0, 1, 0)), ("10", "01"), ((4, 0), (0, 1)),
        ):
            self.tells(False, is_one_base, 3, 2, one, one, value)

    def test_rooms_of_width_0_and_8(self):
        self.assertEqual([meets_of(2, 0, (), ()), shares_of(2, 0, (), ()), one_base(2, 0, (), ())], [[], [], ()])
        rng = random.Random(75)
        for p in PRIMES:
            one, other = wide_chain(rng, p, (1, 2, 5, 6)), wide_chain(rng, p, (2, 3, 4, 7))
            base = one_base(p, 8, one, other)
            self.tells(True, is_one_base, p, 8, one, other, base)
            self.tells(False, is_one_base, p, 8, one, other, base[:-1] + (base[0],))
            self.assertEqual([sum(row) for row in shares_of(p, 8, one, other)], [1, 1, 3, 1, 2])
            self.assertEqual([meets[-1] for meets in meets_of(p, 8, one, other)], [1, 2, 5, 6, 8])


class TestLedAndFetched(Checks):
    def left_out(self, p, width, sets):
        """The bases of some sets of entries, without the least part and what is told a second time."""
        told = []
        for held in sets:
            base = base_of_set(p, width, held)
            if base != () and (not told or base != told[-1]):
                told.append(base)
        return tuple(told)

    def test_against_all_entries(self):
        rng = random.Random(76)
        for p, a in ROOMS:
            for b in range(4):
                if p ** b <= 130:
                    for _ in range(4):
                        self.one_table(rng, p, a, b)

    def one_table(self, rng, p, a, b):
        table = random_table(rng, p, a, b)
        chain = random_chain(rng, p, a)
        sets = [{lead(p, b, table, entry) for entry in span(p, a, base)} for base in chain]
        told = led_chain(p, b, table, chain)
        self.assertEqual(told, self.left_out(p, b, sets + [set(all_entries(p, b))]))
        self.tells(True, is_chain, p, b, told)
        there = random_chain(rng, p, b)
        sets = [span(p, b, base) for base in ((),) + there]
        sets = [{entry for entry in all_entries(p, a) if lead(p, b, table, entry) in held} for held in sets]
        told = fetched_chain(p, b, table, there)
        self.assertEqual(told, self.left_out(p, a, sets))
        self.tells(True, is_chain, p, a, told)

    def test_what_is_left_out(self):
        chain = (((1, 0),), WHOLE)
        self.assertEqual(led_chain(2, 2, ((0, 0), (0, 0)), chain), (WHOLE,))
        self.assertEqual(led_chain(2, 2, ((0, 0), (1, 1)), chain), (((1, 1),), WHOLE))
        self.assertEqual(led_chain(2, 2, ((1, 1), (0, 1)), chain), (((1, 1),), WHOLE))
        self.assertEqual(led_chain(2, 0, ((), ()), chain), ())
        self.assertEqual(led_chain(2, 2, (), ()), (WHOLE,))
        self.assertEqual(fetched_chain(2, 2, ((0, 0), (0, 0)), chain), (WHOLE,))
        self.assertEqual(fetched_chain(2, 2, ((1, 0), (0, 1)), chain), chain)
        self.assertEqual(fetched_chain(2, 2, ((0, 0), (0, 1)), chain), (((1, 0),), WHOLE))
        self.assertEqual(fetched_chain(2, 2, (), chain), ())
        self.assertEqual(fetched_chain(2, 0, ((), ()), ()), (WHOLE,))

    def test_wrong_chains(self):
        table = ((0, 1), (1, 1), (0, 0))
        for wrong in (None, (), (WHOLE,), [WHOLE], "ab"):
            self.raises(BadChain, wrong, led_chain, 2, 2, table, wrong)
        cube = (((1, 0, 0), (0, 1, 0), (0, 0, 1)),)
        for wrong in (None, (), cube, [WHOLE], (((1, 0),),), (WHOLE, WHOLE)):
            self.raises(BadChain, wrong, fetched_chain, 2, 2, table, wrong)
        for wrong in (None, (), (((1, 0),),), (WHOLE, ((1, 0),)), ((), WHOLE), (WHOLE, WHOLE), [WHOLE], WHOLE):
            for call in (meets_of, shares_of, one_base):
                self.raises(BadChain, wrong, call, 2, 2, wrong, (WHOLE,))
                self.raises(BadChain, wrong, call, 2, 2, (WHOLE,), wrong)
            self.raises(BadChain, wrong, is_one_base, 2, 2, wrong, (WHOLE,), None)
            self.raises(BadChain, wrong, is_one_base, 2, 2, (WHOLE,), wrong, None)
            self.raises(BadChain, wrong, step_of, 2, 2, wrong, (0, 0))


if __name__ == "__main__":
    unittest.main()
