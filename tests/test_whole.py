"""The whole document once more: what it tells across stages, on drawn small inputs."""

import random
import unittest

from staybars.alike import alike_crossing, parting_stretch
from staybars.bars import both_heaps, cut_heap, mirrored_heap, plain_line, widths_of
from staybars.console import Console
from staybars.counts import count_squares, group_of, heaps_with, lines_with, maps_with
from staybars.crossings import all_crossings, crossing_width
from staybars.cuts import bars_ahead, bars_over, bars_past
from staybars.desk import Desk
from staybars.flags import ended_bars, heap_of_line
from staybars.grown import days_line, elder_names, shift_of
from staybars.halves import are_exchangeable, way_between
from staybars.joints import all_joinings, heap_joined, joining_at, line_with, map_for
from staybars.lies import into_crossing, onto_crossing
from staybars.lines import changed_line, cut_line, lines_beside, mirrored_line, put_together, signs_of
from staybars.logs import read_log, write_log
from staybars.looks import heap_of_ranks, looks_enough, rank_of, ranks_of
from staybars.matchings import least_e
from staybars.netlines import groups_line, rings_line
from staybars.nets import cut_days, turned_net
from staybars.papers import bases_of_paper, heap_of_paper, paper_of
from staybars.plain import groups_on, rings_on
from staybars.shadows import led_line, lost_line, rest_line
from staybars.shifts import shifted_line
from staybars.texts import read_heap, read_line, read_net, write_heap, write_line, write_net
from staybars.thereback import least_between
from staybars.tides import net_heaps, turned_over
from staybars.windows import Window
from tests.drawn import drawn, drawn_lines, random_signs, stretches, told_anew
from tests.forths import drawn_forth
from tests.helpers import Checks
from tests.rooms import PRIMES, random_heap, random_line
from tests.test_crossings import random_crossing
from tests.test_grown import nets_that_grow, shifted_net
from tests.test_netlines import WAYS, nets_drawn

KINDS = ("groups", "rings")


def some_lines(seed, often):
    """Lines of any kind, and lines of known bars."""
    rng = random.Random(seed)
    for number in range(often):
        yield rng, random_line(rng, PRIMES[number % 4], [rng.randrange(4) for _ in range(rng.randrange(1, 7))])
    for _, _, _, line in drawn_lines(rng, often, 4, 9):
        yield rng, line
    for _, net in nets_drawn(seed + 1, often, 5, 6):
        way = rng.choice(WAYS)
        yield rng, groups_line(net, way, rng.choice(PRIMES))
        yield rng, rings_line(net, way, rng.choice(PRIMES))


class TestLines(Checks):
    def test_heaps_by_five_ways(self):
        for rng, line in some_lines(601, 20):
            places = len(line[1])
            heap = heap_of_line(line)
            k = rng.randrange(places)
            self.assertEqual(tuple(sorted(bars_ahead(line, k) + bars_over(line, k) + bars_past(line, k))), heap)
            self.assertEqual(heap_of_ranks(places, {stretch: rank_of(line, *stretch) for stretch in stretches(places)}), heap)
            paper = paper_of(line)
            self.assertEqual(heap_of_paper(line, paper), heap)
            self.assertEqual(mirrored_heap(places, heap_of_line(mirrored_line(line))), heap)
            self.assertEqual(changed_line(line, bases_of_paper(line, paper)), plain_line(line[0], heap, signs_of(line)))
            self.assertEqual(widths_of(places, heap), line[1])
            self.assertEqual([read_line(write_line(line)), read_heap(places, write_heap(places, heap))], [line, heap])

    def test_windows_of_lines(self):
        for rng, line in some_lines(602, 10):
            places = len(line[1])
            first = rng.randrange(places)
            last = rng.randrange(first, places)
            cut = cut_line(line, first, last)
            self.assertEqual(heap_of_line(cut), cut_heap(places, heap_of_line(line), first, last))
            window = Window(cut)
            for k in range(first - 1, -1, -1):
                sign, table = line[2][k]
                window.push_left(sign, line[1][k], table)
            for k in range(last, places - 1):
                sign, table = line[2][k]
                window.push_right(sign, line[1][k + 1], table)
            self.assertEqual([window.line_now(), window.heap_now(), window.first_place()], [line, heap_of_line(line), -first])

    def test_halves_and_joinings(self):
        rng = random.Random(603)
        for number in range(40):
            p, places, more = PRIMES[number % 4], rng.randrange(1, 4), rng.randrange(1, 4)
            left = drawn(rng, p, random_heap(rng, places, 3), random_signs(rng, places))
            right = drawn(rng, p, random_heap(rng, more, 3), random_signs(rng, more))
            joinings = all_joinings(left, right)
            for sign in "><":
                total = 0
                for joining in joinings:
                    table = map_for(left, right, sign, joining)
                    line = line_with(left, right, sign, table)
                    self.assertEqual(heap_of_line(line), heap_joined(left, right, joining))
                    self.assertEqual(joining_at(line, places - 1), joining)
                    total += maps_with(left, right, sign, joining)
                self.assertEqual(total, p ** (left[1][-1] * right[1][0]))
            other = told_anew(rng, left, [places - 1])
            self.tells(True, are_exchangeable, left, other)
            self.assertIsNotNone(way_between(left, other))
            whole = put_together(left, drawn(rng, p, ((0, 0, left[1][-1]),) if left[1][-1] else (), ()))
            self.assertEqual(ended_bars(whole), ended_bars(left))

    def test_crossings_and_their_lines(self):
        rng = random.Random(604)
        for number in range(40):
            p, places = PRIMES[number % 4], rng.randrange(1, 6)
            signs = random_signs(rng, places)
            heaps = [random_heap(rng, places, 2) for _ in range(2)]
            one, other = (drawn(rng, p, heap, signs) for heap in heaps)
            self.assertEqual(len(all_crossings(one, other)), crossing_width(signs, *heaps))
            self.assertEqual(alike_crossing(one, other) is None, heaps[0] != heaps[1])
            self.assertEqual(parting_stretch(one, other) is None, ranks_of(places, heaps[0]) == ranks_of(places, heaps[1]))
            self.assertEqual(heap_of_line(lines_beside(one, other)), both_heaps(places, *heaps))
            crossing = random_crossing(rng, one, other)
            led, lost, rest = led_line(one, other, crossing)[0], lost_line(one, other, crossing)[0], rest_line(one, other, crossing)[0]
            self.assertEqual([a + b for a, b in zip(led[1], lost[1])], list(one[1]))
            self.assertEqual([a + b for a, b in zip(led[1], rest[1])], list(other[1]))
            if signs == (">",) * (places - 1):
                self.assertIsNotNone(onto_crossing(one, led))
                self.assertIsNotNone(into_crossing(led, other))
                self.assertIsNotNone(into_crossing(lost, one))
                self.assertIsNotNone(onto_crossing(other, rest))

    def test_counts(self):
        rng = random.Random(605)
        for number in range(30):
            p, widths = PRIMES[number % 4], tuple(rng.randrange(3) for _ in range(1 + number % 5))
            signs = random_signs(rng, len(widths))
            squares = 1
            for width in widths:
                squares *= count_squares(p, width)
            total = 0
            for heap in heaps_with(widths):
                self.assertEqual(lines_with(p, heap, signs) * group_of(p, heap, signs), squares)
                total += lines_with(p, heap, signs)
            self.assertEqual(total, p ** sum(a * b for a, b in zip(widths, widths[1:])))

    def test_looks_and_forth_lines(self):
        rng = random.Random(606)
        for places in range(1, 6):
            looks = stretches(places)
            self.assertIsNone(looks_enough(places, looks))
            self.assertIsNotNone(looks_enough(places, looks[:-1]))
        for number in range(30):
            p, places = PRIMES[number % 4], rng.randrange(1, 8)
            one, other = (random_heap(rng, places, 3) for _ in range(2))
            lines = [drawn_forth(rng, p, places, heap) for heap in (one, other)]
            self.assertEqual(least_between(*lines), least_e(places, one, other))
            # A line and the same line some places on are within as many places.
            many = rng.randrange(4)
            least = least_between(lines[0], shifted_line(lines[0], many))
            self.assertTrue(least is not None and least <= many)


class TestNets(Checks):
    def test_nets_desks_logs_and_consoles_tell_the_same(self):
        for rng, net in nets_drawn(611, 30, 5, 7):
            console = Console()
            self.assertEqual(console.answer("open net " + write_net(net)), "ok")
            desk = console.desk("net")
            self.assertEqual([read_net(write_net(net)), desk.net, read_log(write_log(desk)).net], [net, net, net])
            for way in WAYS:
                heaps = net_heaps(net, way)
                self.assertEqual([desk.heap(kind, way=way) for kind in KINDS], list(heaps))
                words = [" ".join(f"{a}-{b}*{often}" for a, b, often in heap) or "-" for heap in heaps]
                self.assertEqual([console.answer(f"heap net {kind} {way}") for kind in KINDS], words)
                places = 2 * net[0] + 1
                self.assertEqual(tuple(mirrored_heap(places, heap) for heap in heaps), net_heaps(turned_net(net), way))
                first = rng.randrange(net[0] + 1)
                last = rng.randrange(first, net[0] + 1)
                cut = tuple(cut_heap(places, heap, 2 * first, 2 * last) for heap in heaps)
                self.assertEqual(net_heaps(cut_days(net, first, last)[0], way), cut)
                self.assertEqual([desk.window(first, last, kind, way=way) for kind in KINDS], list(cut))
                self.assertEqual(turned_over(way, net[0] + 1, *heaps), net_heaps(net, WAYS[way == "unions"]))
                for day in range(net[0] + 1):
                    widths = [widths_of(places, heap)[2 * day] for heap in heaps]
                    self.assertEqual(widths, [len(groups_on(net, day)), rings_on(net, day)])

    def test_nets_that_grow(self):
        for rng, net in nets_that_grow(612, 30):
            for kind, line_of in (("groups", groups_line), ("rings", rings_line)):
                p = rng.choice(PRIMES)
                days = days_line(net, kind, p)
                # By unions what is between two days is all of the later one: its bars are those of the days.
                heap = heap_of_line(line_of(net, "unions", p))
                told = {}
                for a, b, often in heap_of_line(days):
                    told[max(0, 2 * a - 1), 2 * b] = often
                self.assertEqual({(a, b): often for a, b, often in heap}, told)
            self.assertEqual(sum(first == end for _, first, end in elder_names(net)), sum(
                often for a, b, often in heap_of_line(days_line(net, "groups", 2)) if a == b
            ))
            other = shifted_net(rng, net, 2)
            for kind in KINDS:
                least = least_between(days_line(net, kind, 2), days_line(other, kind, 2))
                self.assertTrue(least is not None and least <= shift_of(net, other))

    def test_a_desk_and_a_window_turn_over_alike(self):
        for _, net in nets_drawn(613, 20, 4, 5):
            if net[0] > 0:
                line = groups_line(net, "meets", 2)
                window, desk = Window(line), Desk(net)
                desk.turn()
                window.pop_left()
                self.assertEqual(window.heap_now(), cut_heap(2 * net[0] + 1, heap_of_line(line), 1, 2 * net[0]))
                self.assertEqual(mirrored_heap(2 * net[0] + 1, desk.heap("groups", way="meets")), heap_of_line(line))


if __name__ == "__main__":
    unittest.main()
