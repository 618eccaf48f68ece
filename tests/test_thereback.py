"""[19], stage 23: tables there and back between forth lines, and the matchings that they tell."""

import itertools
import random
import unittest

from staybars.alike import back_crossing
from staybars.errors import BadLine, BadNumber, BadPair, NotForth, NotMatching, NotThereAndBack
from staybars.flags import heap_of_line
from staybars.lines import is_line
from staybars.matchings import is_matching, least_e, matching_of
from staybars.thereback import are_tables_on, are_within, is_there_and_back, least_between, led_matching, tables_for, there_and_back
from tests.drawn import same_rows
from tests.forths import all_small_heaps, bars, drawn_forth, forth_line, heap_pairs, moved_pair, tables_on_by_words
from tests.forths import there_and_back_by_words, units, walked_on, width_at
from tests.helpers import Checks, odd_values
from tests.rooms import PRIMES, lead, random_table, span, width_in
from tests.test_crossings import random_crossing

S = (2, (1, 1, 1, 0, 0), ((">", ((1,),)), (">", ((1,),)), (">", ((),)), (">", ())))
T = (2, (0, 1, 1, 1, 0), ((">", ()), (">", ((1,),)), (">", ((1,),)), (">", ((),))))
W = ((((1,),), ((1,),), ((1,),), (), ()), ((), ((1,),), ((),), ((),), ()))
NO_NUMBERS = [None, True, False, -1, 41, 10 ** 40, "1", (1,), [1], {}, ""]


def line_pairs(seed, often, longest=6, most=3):
    """Forth lines of equally many places told in drawn bases, their heaps, and the places."""
    rng = random.Random(seed)
    for number, (places, first, second) in enumerate(heap_pairs(rng, often, longest, most)):
        p = PRIMES[number % 4]
        yield rng, places, first, second, drawn_forth(rng, p, places, first), drawn_forth(rng, p, places, second)


def near_pairs(seed, often, longest=6, most=3):
    """Such lines that are within e, and e."""
    rng = random.Random(seed)
    for number in range(often):
        p, places, e = PRIMES[number % 4], rng.randrange(1, longest + 1), rng.randrange(4)
        first, second = moved_pair(rng, places, e, most)
        yield rng, places, e, drawn_forth(rng, p, places, first), drawn_forth(rng, p, places, second)


def turned_about(rng, line):
    """A crossing from a line to itself that has a back, and its back."""
    while True:
        crossing = random_crossing(rng, line, line)
        back = back_crossing(line, line, crossing)
        if back is not None:
            return crossing, back


def behind(p, width, first, second):
    return tuple(lead(p, width, second, row) for row in first)


def led_otherwise(rng, one, other, e, value):
    """Other tables there and back: the one's entries are turned about ahead of there, and turned back behind back."""
    p, last = one[0], len(one[2])
    turn, back = turned_about(rng, one)
    there = tuple(behind(p, width_at(other, k + e), turn[k], table) for k, table in enumerate(value[0]))
    again = tuple(behind(p, width_at(one, k + e), table, back[min(k + e, last)]) for k, table in enumerate(value[1]))
    return there, again


def bent_tables(rng, p, tables):
    """The tables with one number changed."""
    spots = [(k, i, j) for k, table in enumerate(tables) for i, row in enumerate(table) for j in range(len(row))]
    if not spots:
        return None
    k, i, j = rng.choice(spots)
    row = tables[k][i]
    row = row[:j] + ((row[j] + rng.randrange(1, p)) % p,) + row[j + 1:]
    table = tables[k][:i] + (row,) + tables[k][i + 1:]
    return tables[:k] + (table,) + tables[k + 1:]


def bars_between_by_count(one, other, e, there):
    """The bars of the line between, by ranks counted over all entries: all from a to b that come from there."""
    p, places = one[0], len(one[1])

    def rank(a, b):
        if a < 0 or b >= places:
            return 0
        led = [walked_on(other, a + e, row, b - a) for row in there[a]]
        return width_in(p, span(p, width_at(other, b + e), led))
    found = []
    for a in range(places):
        for b in range(a, places):
            often = rank(a, b) - rank(a - 1, b) - rank(a, b + 1) + rank(a - 1, b + 1)
            found.extend([(a, b)] * often)
    return found


def led_by_words(one, other, e, there):
    """The led matching by the words of [19]."""
    places = len(one[1])
    between = bars_between_by_count(one, other, e, there)
    ones, others = bars(heap_of_line(one)), bars(heap_of_line(other))
    pairs = {}
    for a in range(places):
        mine = sorted((k for k in range(len(between)) if between[k][0] == a), key=lambda k: (-between[k][1], k))
        theirs = sorted((bar for bar in ones if bar[0] == a), key=lambda bar: -bar[1])
        for number, bar in zip(mine, theirs):
            pairs.setdefault(number, []).append(bar)
    for k in range(places):
        mine = sorted((n for n in range(len(between)) if between[n][1] == k), key=lambda n: (between[n][0], n))
        theirs = sorted(bar for bar in others if bar[1] == (k if k == places - 1 else k + e) and (k == places - 1 or k + e < places - 1))
        for number, bar in zip(mine, theirs):
            pairs.setdefault(number, []).append(bar)
    found = sorted(tuple(pair) for pair in pairs.values())
    return tuple((first, second, found.count((first, second))) for first, second in sorted(set(found)))


class TestWithin(Checks):
    def test_exactly_if_the_heaps_have_a_matching(self):
        told = []
        for _, places, first, second, one, other in line_pairs(421, 150, 9, 4):
            for e in (0, 1, 2, 40):
                wanted = matching_of(places, first, second, e) is not None
                told.append(wanted)
                self.tells(wanted, are_within, one, other, e)
                self.assertEqual(there_and_back(one, other, e) is not None, wanted)
            self.assertEqual(least_between(one, other), least_e(places, first, second))
            self.assertEqual(least_between(other, one), least_between(one, other))
        self.assertTrue(100 < sum(told) < len(told) - 100)

    def test_none_where_no_tables_at_all_are_right(self):
        found = {}
        for one, other in itertools.product(self.small_lines(), repeat=2):
            for e in (0, 1):
                every = [list(self.all_tables_on(*pair, e)) for pair in ((one, other), (other, one))]
                right = any(there_and_back_by_words(one, other, e, value) for value in itertools.product(*every))
                found[e, right] = True
                self.tells(right, are_within, one, other, e)
                self.assertEqual(there_and_back(one, other, e) is not None, right)
        self.assertEqual(len(found), 4)

    def small_lines(self):
        """The plain forth lines of two places over 2 with at most two bars."""
        rng = random.Random(422)
        return [drawn_forth(rng, 2, 2, heap) for heap in all_small_heaps(2, 2)]

    def all_tables_on(self, one, other, e):
        """All tuples of tables from the one's rooms to the other's e places on that go along with all maps."""
        rooms = [(width, width_at(other, k + e)) for k, width in enumerate(one[1])]
        entries = {b: list(itertools.product(range(2), repeat=b)) for _, b in rooms}
        for value in itertools.product(*[list(itertools.product(entries[b], repeat=a)) for a, b in rooms]):
            if tables_on_by_words(one, other, e, value):
                yield value

    def test_equal_lines(self):
        rng = random.Random(423)
        for number in range(20):
            line = forth_line(rng, PRIMES[number % 4], [rng.randrange(4) for _ in range(1 + number)][:17])
            self.assertEqual(least_between(line, line), 0)
            self.tells(True, are_within, line, line, 0)
            value = there_and_back(line, line, 0)
            self.assertTrue(there_and_back_by_words(line, line, 0, value))
            same = tuple(same_rows(width) for width in line[1])
            self.tells(True, is_there_and_back, line, line, 0, (same, same))
            heap = heap_of_line(line)
            self.assertEqual(led_matching(line, line, 0, (same, same)), tuple(((a, b), (a, b), often) for a, b, often in heap))

    def test_lines_of_one_place_and_of_no_width(self):
        for many, more in itertools.product(range(4), repeat=2):
            one, other = (5, (many,), ()), (5, (more,), ())
            for e in (0, 1, 40):
                self.tells(many == more, are_within, one, other, e)
                value = there_and_back(one, other, e)
                self.assertEqual(value is None, many != more)
                if value is not None:
                    self.assertTrue(there_and_back_by_words(one, other, e, value))
                    self.assertEqual(led_matching(one, other, e, value), (((0, 0), (0, 0), many),) if many else ())
            self.assertEqual(least_between(one, other), 0 if many == more else None)
        for places in (1, 2, 17):
            none = (3, (0,) * places, ((">", ()),) * (places - 1))
            self.assertEqual([there_and_back(none, none, 3), least_between(none, none)], [(((),) * places,) * 2, 0])
            self.assertEqual([tables_for(none, none, 0, ()), led_matching(none, none, 0, (((),) * places,) * 2)], [(((),) * places,) * 2, ()])
        short = drawn_forth(random.Random(1), 3, 17, ((3, 6, 2),))
        none = (3, (0,) * 17, ((">", ()),) * 16)
        self.assertEqual([least_between(short, none), least_between(none, short)], [2, 2])


class TestTables(Checks):
    def test_of_matchings_by_the_words(self):
        for rng, places, e, one, other in near_pairs(424, 120, 8, 4):
            matching = matching_of(places, heap_of_line(one), heap_of_line(other), e)
            for value in (tables_for(one, other, e, matching), there_and_back(one, other, e)):
                self.assertTrue(there_and_back_by_words(one, other, e, value))
                self.tells(True, is_there_and_back, one, other, e, value)
                self.tells(True, are_tables_on, one, other, e, value[0])
                self.tells(True, are_tables_on, other, one, e, value[1])
            for more in (e + 1, 40):
                self.assertTrue(there_and_back_by_words(one, other, more, there_and_back(one, other, more)))

    def test_of_all_matchings_of_two_lines(self):
        from tests.test_matchings import all_matchings
        found = 0
        for rng, places, e, one, other in near_pairs(425, 60, 5, 2):
            first, second = heap_of_line(one), heap_of_line(other)
            if len(bars(first)) <= 4 and len(bars(second)) <= 4:
                for matching in all_matchings(places, first, second, e):
                    found += 1
                    self.assertTrue(there_and_back_by_words(one, other, e, tables_for(one, other, e, matching)))
        self.assertGreater(found, 40)

    def test_one_number_bent(self):
        told = []
        for rng, places, e, one, other in near_pairs(426, 150, 5, 2):
            value = there_and_back(one, other, e)
            for side in (0, 1):
                bent = bent_tables(rng, one[0], value[side])
                if bent is not None:
                    pair = (bent, value[1]) if side == 0 else (value[0], bent)
                    lines = (one, other) if side == 0 else (other, one)
                    self.tells(tables_on_by_words(*lines, e, bent), are_tables_on, *lines, e, bent)
                    wanted = there_and_back_by_words(one, other, e, pair)
                    told.append(wanted)
                    self.tells(wanted, is_there_and_back, one, other, e, pair)
        self.assertTrue(5 < sum(told) < len(told) - 50, sum(told))

    def test_drawn_tables(self):
        told = []
        for rng, places, e, one, other in near_pairs(427, 200, 3, 1):
            tables = tuple(random_table(rng, one[0], width, width_at(other, k + e)) for k, width in enumerate(one[1]))
            wanted = tables_on_by_words(one, other, e, tables)
            told.append(wanted)
            self.tells(wanted, are_tables_on, one, other, e, tables)
        self.assertTrue(20 < sum(told) < 180)

    def test_tables_that_lead_round_in_one_way_alone(self):
        # There and then back is right, back and then there is not: the other's bar comes to nought.
        one, other = (5, (0, 0), ((">", ()),)), (5, (1, 1), ((">", ((1,),)),))
        value = (((), ()), (((),), ((),)))
        self.tells(False, is_there_and_back, one, other, 0, value)
        self.tells(False, is_there_and_back, other, one, 0, value[::-1])
        short = (5, (1, 0), ((">", ((),)),))
        value = (((), ()), (((),), ()))
        self.tells(False, is_there_and_back, one, short, 0, value)
        self.tells(True, is_there_and_back, one, short, 1, value)
        self.tells(True, is_there_and_back, short, one, 1, value[::-1])

    def test_noughts_between_bars_that_go_on(self):
        one = (5, (1,), ())
        for e in (0, 1, 40):
            for x, y in itertools.product(range(5), repeat=2):
                self.tells(x * y % 5 == 1, is_there_and_back, one, one, e, ((((x,),),), (((y,),),)))
                self.tells(True, are_tables_on, one, one, e, (((x,),),))

    def test_whether_of_any_value(self):
        self.tells(True, is_there_and_back, S, T, 1, W)
        self.tells(True, are_tables_on, S, T, 1, W[0])
        for value in odd_values() + [
            list(W), W[0], W + ((),), W[::-1], (list(W[0]), W[1]), (W[0], None), (None, W[1]), (W[0][:-1], W[1]), (W[0], W[1][1:]), {0: W[0], 1: W[1]},
            (([[1]], ((1,),), ((1,),), (), ()), W[1]), ((((True,),), ((1,),), ((1,),), (), ()), W[1]), ((((3,),), ((1,),), ((1,),), (), ()), W[1]),
            ((((1,),), ((1,),), ((1,),), (), ((),)), W[1]), (W[0], ((), ((1,),), ((0,),), ((),), ())), "ab",
        ]:
            self.tells(False, is_there_and_back, S, T, 1, value)
            if isinstance(value, tuple) and len(value) == 2:
                self.tells(value[0] == W[0] and "True" not in repr(value[0]) and type(value[0]) is tuple, are_tables_on, S, T, 1, value[0])

    def test_17_places_8_wide(self):
        rng = random.Random(428)
        for p in PRIMES:
            first = tuple((a, a + 6, 1) for a in range(0, 10)) + ((10, 16, 2),)
            second = ((0, 5, 1),) + tuple((a + 1, a + 5, 1) for a in range(1, 9)) + ((9, 16, 2),)
            one, other = drawn_forth(rng, p, 17, first), drawn_forth(rng, p, 17, second)
            e = least_between(one, other)
            value = there_and_back(one, other, e)
            self.assertTrue(there_and_back_by_words(one, other, e, value))
            self.tells(False, are_within, one, other, e - 1)
            self.tells(True, is_matching, 17, first, second, e, led_matching(one, other, e, value))


class TestLed(Checks):
    def test_by_the_line_between(self):
        matched = []
        for rng, places, e, one, other in near_pairs(429, 200, 6, 3):
            value = there_and_back(one, other, e)
            for _ in range(3):
                told = led_matching(one, other, e, value)
                self.assertEqual(told, led_by_words(one, other, e, value[0]))
                self.tells(True, is_matching, places, heap_of_line(one), heap_of_line(other), e, told)
                matched.append(sum(often for _, _, often in told))
                value = led_otherwise(rng, one, other, e, value)
                self.assertTrue(there_and_back_by_words(one, other, e, value))
            self.assertEqual(led_matching(other, one, e, value[::-1]), led_by_words(other, one, e, value[1]))
        self.assertGreater(max(matched), 5)

    def test_equal_bars_and_bars_that_go_on(self):
        rng = random.Random(430)
        for p in PRIMES:
            first, second = ((0, 3, 2), (1, 5, 3), (2, 4, 1)), ((1, 3, 1), (0, 5, 2), (1, 4, 1), (2, 5, 1))
            second = tuple(sorted(second))
            one, other = drawn_forth(rng, p, 6, first), drawn_forth(rng, p, 6, second)
            for e in (1, 2, 3, 5):
                value = there_and_back(one, other, e)
                if value is not None:
                    for _ in range(4):
                        told = led_matching(one, other, e, value)
                        self.assertEqual(told, led_by_words(one, other, e, value[0]))
                        self.tells(True, is_matching, 6, first, second, e, told)
                        value = led_otherwise(rng, one, other, e, value)

    def test_it_need_not_be_the_matching_of_which_the_tables_were_made(self):
        one = drawn_forth(random.Random(431), 5, 5, ((0, 4, 1), (1, 4, 1)))
        crossed = (((0, 4), (1, 4), 1), ((1, 4), (0, 4), 1))
        value = tables_for(one, one, 1, crossed)
        self.assertTrue(there_and_back_by_words(one, one, 1, value))
        told = led_matching(one, one, 1, value)
        self.assertEqual(told, led_by_words(one, one, 1, value[0]))
        self.assertEqual(told, (((0, 4), (0, 4), 1), ((1, 4), (1, 4), 1)))


class TestErrors(Checks):
    def calls(self):
        return [
            lambda one, other: are_within(one, other, None), least_between, lambda one, other: tables_for(one, other, None, None),
            lambda one, other: there_and_back(one, other, None), lambda one, other: are_tables_on(one, other, None, None),
            lambda one, other: is_there_and_back(one, other, None, None), lambda one, other: led_matching(one, other, None, None),
        ]

    def test_no_lines(self):
        back = (2, (1, 1), (("<", ((1,),)),))
        for odd in odd_values():
            if not is_line(odd):
                for call in self.calls():
                    self.raises(BadLine, odd, call, odd, None)
                    self.raises(BadLine, odd, call, back, odd)

    def test_no_forth_lines_and_no_pairs(self):
        back, other_back = (2, (1, 1), (("<", ((1,),)),)), (3, (1,) * 3, ((">", ((1,),)), ("<", ((1,),))))
        for call in self.calls():
            self.raises(NotForth, back, call, back, other_back)
            self.raises(NotForth, other_back, call, S, other_back)
            self.raises(NotForth, back, call, back, S)
            for stranger in ((3,) + S[1:], (2, (1,), ()), (2, (0,) * 6, ((">", ()),) * 5), (7, (0,) * 17, ((">", ()),) * 16)):
                self.raises_tuple(BadPair, (S, stranger), call, S, stranger)
                self.raises_tuple(BadPair, (stranger, S), call, stranger, S)

    def test_numbers(self):
        for number in NO_NUMBERS:
            self.raises(BadNumber, number, are_within, S, T, number)
            self.raises(BadNumber, number, tables_for, S, T, number, None)
            self.raises(BadNumber, number, there_and_back, S, T, number)
            self.raises(BadNumber, number, are_tables_on, S, T, number, None)
            self.raises(BadNumber, number, is_there_and_back, S, T, number, None)
            self.raises(BadNumber, number, led_matching, S, T, number, None)
        self.assertTrue(there_and_back_by_words(S, T, 40, there_and_back(S, T, 40)))

    def test_no_matching_and_no_tables(self):
        for odd in odd_values() + [(((0, 2), (1, 3), 2),), [((0, 2), (1, 3), 1)], (((0, 2), (1, 3), True),), (((1, 3), (0, 2), 1),)]:
            self.raises(NotMatching, odd, tables_for, S, T, 1, odd)
        for odd in odd_values() + [W[::-1], list(W), W[:1], (W[0], W[0]), (W[0], ((), ((0,),), ((),), ((),), ()))]:
            self.raises(NotThereAndBack, odd, led_matching, S, T, 1, odd)
        self.raises(NotMatching, (((0, 2), (1, 3), 1),), tables_for, S, T, 0, (((0, 2), (1, 3), 1),))
        self.raises(NotThereAndBack, W, led_matching, S, T, 2, W)
        self.assertEqual(tables_for(S, T, 2, ()), there_and_back(S, T, 2))

    def test_units(self):
        self.assertEqual(units(2), [(1, 0), (0, 1)])


if __name__ == "__main__":
    unittest.main()
