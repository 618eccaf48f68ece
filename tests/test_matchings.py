"""[19], stage 22: matchings of bars, and the lots against them."""

import itertools
import random
import unittest

from staybars.errors import BadBar, BadHeap, BadNumber, BadPlaces
from staybars.matchings import bars_fit, is_lot, is_matching, least_e, lot_of, matching_of
from tests.drawn import stretches
from tests.forths import all_small_heaps, bars, counted, fit_by_words, heap_pairs, long_by_words, moved_pair
from tests.helpers import Checks, odd_values

A, B = ((0, 2, 1),), ((1, 3, 1),)
NO_NUMBERS = [None, True, False, -1, 41, 10 ** 40, "1", (1,), [1], {}, ""]


def matching_by_words(places, one, other, e, value):
    """Whether a value, a tuple of triples, is a matching, by the words of [19]."""
    heaps = [{(a, b): often for a, b, often in heap} for heap in (one, other)]
    for first, second, often in value:
        if first not in heaps[0] or second not in heaps[1] or often < 1 or not fit_by_words(places, first, second, e):
            return False
    if list(value) != sorted(value) or len({match[:2] for match in value}) < len(value):
        return False
    for side in (0, 1):
        for bar, often in heaps[side].items():
            used = sum(match[2] for match in value if match[side] == bar)
            if used > often or (used < often and long_by_words(places, bar, e)):
                return False
    return True


def lot_by_words(places, one, other, e, value):
    """Whether a value (side, tuple of stretches) is a lot, by the words of [19]."""
    side, chosen = value
    own, against = (one, other) if side == "one" else (other, one)
    if chosen == () or list(chosen) != sorted(set(chosen)):
        return False
    if not all(any(bar == pile[:2] for pile in own) and long_by_words(places, bar, e) for bar in chosen):
        return False
    stand = sum(often for a, b, often in own if (a, b) in chosen)
    fitting = sum(often for a, b, often in against if any(fit_by_words(places, bar, (a, b), e) for bar in chosen))
    return stand > fitting


def can_be_matched(places, one, other, e):
    """Whether there is a matching, by all ways to match bar by bar."""
    def go(left, right):
        if not left:
            return not any(long_by_words(places, bar, e) for bar in right)
        bar, rest = left[0], left[1:]
        if not long_by_words(places, bar, e) and go(rest, right):
            return True
        for k, second in enumerate(right):
            if second not in right[:k] and fit_by_words(places, bar, second, e) and go(rest, right[:k] + right[k + 1:]):
                return True
        return False
    return go(bars(one), bars(other))


def all_matchings(places, one, other, e):
    """All tuples of triples, ascending, with numbers that the heaps could bear, that are matchings."""
    pairs = [(x[:2], y[:2], min(x[2], y[2])) for x in one for y in other if fit_by_words(places, x[:2], y[:2], e)]
    for numbers in itertools.product(*[range(most + 1) for _, _, most in pairs]):
        value = tuple((first, second, often) for (first, second, _), often in zip(pairs, numbers) if often)
        if matching_by_words(places, one, other, e, value):
            yield value


class TestFit(Checks):
    def test_all_pairs(self):
        for places in (1, 2, 3, 5):
            for one, other in itertools.product(stretches(places), repeat=2):
                for e in (0, 1, 2, 3, 5, 40):
                    self.tells(fit_by_words(places, one, other, e), bars_fit, places, one, other, e)

    def test_bars_that_go_on(self):
        self.tells(True, bars_fit, 17, (0, 16), (16, 16), 16)
        self.tells(False, bars_fit, 17, (0, 16), (16, 16), 15)
        self.tells(False, bars_fit, 17, (0, 16), (0, 15), 40)
        self.tells(False, bars_fit, 17, (0, 15), (0, 16), 40)
        self.tells(True, bars_fit, 17, (0, 15), (0, 0), 15)
        self.tells(False, bars_fit, 17, (0, 15), (0, 0), 14)


class TestMatchings(Checks):
    def held_against(self, places, one, other, e, can):
        """The matching or the lot that is told is one, by the words, and just one of both is told."""
        told, lot = matching_of(places, one, other, e), lot_of(places, one, other, e)
        self.assertEqual([told is not None, lot is None], [can, can], (places, one, other, e))
        if can:
            self.assertIs(type(told), tuple)
            self.assertTrue(matching_by_words(places, one, other, e, told))
            self.tells(True, is_matching, places, one, other, e, told)
        else:
            self.assertIn(lot[0], ("one", "other"))
            self.assertTrue(lot_by_words(places, one, other, e, lot), lot)
            self.tells(True, is_lot, places, one, other, e, lot)

    def test_all_small_heaps(self):
        for places, most in ((1, 3), (2, 2), (3, 2)):
            for one, other in itertools.product(all_small_heaps(places, most), repeat=2):
                for e in (0, 1, 2):
                    self.held_against(places, one, other, e, can_be_matched(places, one, other, e))

    def test_drawn_heaps(self):
        rng = random.Random(411)
        told = []
        for places, one, other in heap_pairs(rng, 500, 6, 3):
            if len(bars(one)) <= 8 and len(bars(other)) <= 8:
                for e in (0, 1, 2, 3):
                    can = can_be_matched(places, one, other, e)
                    told.append(can)
                    self.held_against(places, one, other, e, can)
        self.assertTrue(300 < sum(told) < len(told) - 300)

    def test_moved_heaps(self):
        rng = random.Random(412)
        for number in range(200):
            places, e = rng.randrange(1, 18), rng.randrange(5)
            one, other = moved_pair(rng, places, e, 6)
            self.held_against(places, one, other, e, True)
            self.held_against(places, other, one, e, True)
            self.assertLessEqual(least_e(places, one, other), e)

    def test_one_side_first_must_not_leave_the_other_without(self):
        # The long bar of either heap can do with the short one of the other, and with the long one.
        one, other = ((0, 2, 1), (1, 1, 1)), ((0, 1, 1), (1, 3, 1))
        self.held_against(5, one, other, 1, can_be_matched(5, one, other, 1))
        one, other = ((2, 3, 2), (2, 4, 1)), ((1, 3, 1), (2, 2, 2), (3, 5, 1))
        self.held_against(7, one, other, 1, can_be_matched(7, one, other, 1))

    def test_bars_that_must_change_their_partners(self):
        # (k, k + 2) and (k + 1, k + 3) fit for 1: only the whole row moved by one leaves none out.
        for many in range(1, 8):
            one = tuple((k, k + 2, 1) for k in range(many))
            other = tuple((k + 1, k + 3, 1) for k in range(many))
            self.held_against(12, one, other, 1, True)
            self.held_against(12, other, one, 1, True)
            self.held_against(12, one, other + ((many + 2, many + 4, 1),), 1, False)
            self.held_against(12, one + ((many + 4, many + 6, 1),) if many < 5 else one + ((10, 11, 1),), other, 1, False)

    def test_17_places_full(self):
        full = tuple((k, k, 8) for k in range(17))
        self.held_against(17, full, full, 0, True)
        self.held_against(17, full, full, 40, True)
        self.held_against(17, full, full[:-1] + ((16, 16, 7),), 40, False)
        less = full[:5] + ((5, 5, 7),) + full[6:]
        self.held_against(17, full, less, 0, False)
        self.assertEqual(lot_of(17, full, less, 0), ("one", ((5, 5),)))
        self.assertEqual(lot_of(17, less, full, 0), ("other", ((5, 5),)))
        self.assertEqual([least_e(17, full, less), least_e(17, full, ((16, 16, 8),))], [1, 1])

    def test_empty_heaps(self):
        for places in (1, 17):
            for e in (0, 40):
                self.assertEqual([matching_of(places, (), (), e), lot_of(places, (), (), e)], [(), None])
                self.tells(True, is_matching, places, (), (), e, ())
                self.tells(False, is_lot, places, (), (), e, ("one", ()))
            self.assertEqual(least_e(places, (), ()), 0)
        self.assertEqual([matching_of(3, ((0, 1, 2),), (), 1), lot_of(3, ((0, 1, 2),), (), 0)], [(), ("one", ((0, 1),))])


class TestIsMatching(Checks):
    def test_all_ways_of_small_heaps(self):
        rng = random.Random(413)
        seen = []
        for places, one, other in heap_pairs(rng, 150, 4, 2):
            if len(bars(one)) <= 4 and len(bars(other)) <= 4:
                for e in (0, 1, 2):
                    found = list(all_matchings(places, one, other, e))
                    seen.append(len(found))
                    self.assertEqual(bool(found), can_be_matched(places, one, other, e))
                    self.assertIn(matching_of(places, one, other, e), found or [None])
                    for value in found:
                        self.tells(True, is_matching, places, one, other, e, value)
                        for bent in self.bents(value):
                            self.tells(matching_by_words(places, one, other, e, bent), is_matching, places, one, other, e, bent)
        self.assertGreater(max(seen), 10)

    def bents(self, value):
        """Values with one number, or one triple, changed."""
        for k, (first, second, often) in enumerate(value):
            for new in (
                (first, second, often + 1), (first, second, often - 1), ((first[0] + 1, first[1]), second, often), (first, (second[0], second[1] + 1), often),
                (second, first, often),
            ):
                yield value[:k] + (new,) + value[k + 1:]
            yield value[:k] + value[k + 1:]
            yield value[:k] + (value[k],) * 2 + value[k + 1:]
        if len(value) > 1:
            yield value[::-1]

    def test_kinds_are_strict(self):
        one, other = ((0, 1, 2), (1, 3, 1)), ((0, 1, 1), (1, 1, 2))
        value = (((0, 1), (0, 1), 1), ((0, 1), (1, 1), 1), ((1, 3), (1, 1), 1))
        self.tells(False, is_matching, 4, one, other, 1, value)
        other = ((0, 1, 1), (1, 1, 1), (1, 3, 1))
        value = (((0, 1), (0, 1), 1), ((0, 1), (1, 1), 1), ((1, 3), (1, 3), 1))
        self.tells(True, is_matching, 4, one, other, 1, value)
        for bent in odd_values() + [
            list(value), value[0], (list(value[0]),) + value[1:], (([0, 1], (0, 1), 1),) + value[1:], (((0, 1), [0, 1], 1),) + value[1:],
            (((0, 1), (0, 1), True),) + value[1:], (((False, 1), (0, 1), 1),) + value[1:], (((0, 1), (0, True), 1),) + value[1:],
            (((0, 1), (0, 1), "1"),) + value[1:], (((0, 1), (0, 1)),) + value[1:], (((0, 1), (0, 1), 1, 1),) + value[1:], value + (None,),
            (((0, 1, 1), (0, 1), 1),) + value[1:], (None,) + value[1:], {k: match for k, match in enumerate(value)},
        ]:
            # Short bars alone need no partner: for 1 these are (0, 1) and (1, 1).
            self.tells(False, is_matching, 4, one, other, 1, bent)

    def test_all_that_is_short_may_be_left_out(self):
        one, other = ((0, 1, 2),), ((0, 0, 1), (2, 3, 1))
        for value in ((), (((0, 1), (0, 0), 1),), (((0, 1), (0, 0), 2),), (((0, 1), (2, 3), 1),)):
            self.tells(value in ((), (((0, 1), (0, 0), 1),)), is_matching, 5, one, other, 1, value)
        self.tells(True, is_matching, 5, one, other, 2, (((0, 1), (0, 0), 1), ((0, 1), (2, 3), 1)))


class TestLots(Checks):
    def test_all_lots_of_small_heaps(self):
        rng = random.Random(414)
        for places, one, other in heap_pairs(rng, 45, 4, 2):
            for e in (0, 1, 2):
                found = False
                for many in range(4):
                    for chosen in itertools.permutations([(a, b) for a, b in stretches(places)], many):
                        for side in ("one", "other"):
                            wanted = lot_by_words(places, one, other, e, (side, chosen))
                            found = found or wanted
                            self.tells(wanted, is_lot, places, one, other, e, (side, chosen))
                if found:
                    self.assertIsNone(matching_of(places, one, other, e))

    def test_what_is_no_lot(self):
        one, other = ((0, 0, 2), (0, 3, 2), (2, 4, 1)), ((0, 3, 1), (1, 1, 3))
        self.tells(True, is_lot, 6, one, other, 1, ("one", ((0, 3), (2, 4))))
        self.tells(True, is_lot, 6, one, other, 1, ("one", ((0, 3),)))
        self.tells(True, is_lot, 6, one, other, 1, ("one", ((2, 4),)))
        for value in odd_values() + [
            ("other", ((0, 3), (2, 4))), ("other", ((0, 3),)), ("one", ((2, 4), (0, 3))), ("one", ((0, 3), (0, 3))), ("one", ()), ("one", ((0, 0), (0, 3))),
            ("one", ((0, 0),)), ["one", ((0, 3),)], ("one", [(0, 3)]), ("one", ([0, 3],)), ("one", ((0, 3),), 1), ("one",), ("One", ((0, 3),)),
            ("one", ((False, 3),)), (None, ((0, 3),)), ("one", ((0, 3, 2),)), ("one", ((0, 6),)), ("one", (0, 3)), (1, ((0, 3),)), ("one", ((1, 4),)),
            ("one", ((0, 3), None)), ("one", ((0, 3), [2, 4])), ("one", ((False, 3), (2, 4))), ("one", ((0, 3), (2, "4"))),
            (["one"], ((0, 3),)), ("", ((0, 3),)), ("one", None), ("one", (None,)), ("one", "03"),
        ]:
            self.tells(False, is_lot, 6, one, other, 1, value)

    def test_just_as_many_are_no_lot(self):
        self.tells(False, is_lot, 6, ((0, 3, 2),), ((0, 3, 1), (1, 4, 1)), 1, ("one", ((0, 3),)))
        self.tells(True, is_lot, 6, ((0, 3, 3),), ((0, 3, 1), (1, 4, 1)), 1, ("one", ((0, 3),)))
        # A bar of the other heap that fits two of them counts once.
        self.tells(True, is_lot, 7, ((0, 3, 1), (1, 4, 1)), ((0, 4, 1),), 1, ("one", ((0, 3), (1, 4))))
        self.tells(False, is_lot, 7, ((0, 3, 1), (1, 4, 1)), ((0, 4, 1), (1, 3, 1)), 1, ("one", ((0, 3), (1, 4))))


class TestLeast(Checks):
    def test_the_least_by_looking_at_each(self):
        rng = random.Random(415)
        told = []
        for places, one, other in heap_pairs(rng, 300, 7, 3):
            if len(bars(one)) <= 8 and len(bars(other)) <= 8:
                wanted = next((e for e in range(places + 1) if can_be_matched(places, one, other, e)), None)
                going = [len([bar for bar in bars(heap) if bar[1] == places - 1]) for heap in (one, other)]
                self.assertEqual(wanted is None, going[0] != going[1])
                told.append(wanted)
                self.assertEqual(least_e(places, one, other), wanted)
        self.assertTrue({None, 0, 1, 2, 3} <= set(told))

    def test_great_ones(self):
        self.assertEqual(least_e(17, ((0, 16, 1),), ((16, 16, 1),)), 16)
        self.assertEqual([least_e(17, ((0, 15, 1),), ()), least_e(17, ((0, 14, 1),), ()), least_e(17, ((0, 0, 1),), ())], [8, 8, 1])
        self.assertEqual([least_e(17, ((0, 16, 2),), ((0, 15, 1), (0, 16, 1))), least_e(1, ((0, 0, 1),), ((0, 0, 2),))], [None, None])
        self.assertEqual([least_e(1, ((0, 0, 8),), ((0, 0, 8),)), least_e(17, (), ())], [0, 0])


class TestErrors(Checks):
    def calls(self):
        return [
            lambda places, one, other: matching_of(places, one, other, None), lambda places, one, other: is_matching(places, one, other, None, None), least_e,
            lambda places, one, other: lot_of(places, one, other, None), lambda places, one, other: is_lot(places, one, other, None, None),
        ]

    def test_places_and_heaps(self):
        for call in self.calls():
            for places in (None, True, 0, 18, -1, 10 ** 40, "3", [3]):
                self.raises(BadPlaces, places, call, places, None, None)
            for heap in odd_values() + [((0, 3, 1),), ((0, 1, 9),), [(0, 1, 1)], ((0, 1, True),), ((1, 1, 1), (0, 1, 1)), ((0, 2, 8), (1, 1, 1))]:
                if heap not in ((), ((0, 0, 1),)):
                    self.raises(BadHeap, heap, call, 3, heap, None)
                    self.raises(BadHeap, heap, call, 3, (), heap)
                    self.raises(BadHeap, heap, call, 3, ((0, 0, 1),), heap)

    def test_numbers(self):
        for number in NO_NUMBERS:
            self.raises(BadNumber, number, matching_of, 5, A, B, number)
            self.raises(BadNumber, number, is_matching, 5, A, B, number, None)
            self.raises(BadNumber, number, lot_of, 5, A, B, number)
            self.raises(BadNumber, number, is_lot, 5, A, B, number, None)
            self.raises(BadNumber, number, bars_fit, 5, (0, 2), (1, 3), number)
        self.assertEqual([matching_of(5, A, B, 40), lot_of(5, A, B, 40)], [(), None])

    def test_bars(self):
        for bar in odd_values() + [(0, 5), (-1, 0), [0, 1], (0, True), (0, 1, 1)]:
            if bar not in ((0, 0), (0, 1)):
                self.raises(BadBar, bar, bars_fit, 5, bar, None, None)
                self.raises(BadBar, bar, bars_fit, 5, (0, 0), bar, None)
        for places in (None, True, 0, 18, "3"):
            self.raises(BadPlaces, places, bars_fit, places, None, None, None)

    def test_counted(self):
        self.assertEqual(counted([(0, 1), (0, 0), (0, 1)]), ((0, 0, 1), (0, 1, 2)))


if __name__ == "__main__":
    unittest.main()
