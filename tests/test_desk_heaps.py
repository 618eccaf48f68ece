"""[23], stage 29: the heaps of a desk, how they turn over, and what deeds can do to them."""

import random
import unittest

from staybars.bars import bars_covering, cut_heap, mirrored_heap
from staybars.desk import Desk
from staybars.errors import BadDays, BadKind, BadMark, BadWay, NoDeed
from staybars.flags import heap_of_line
from staybars.netlines import groups_line, rings_line
from staybars.nets import cut_days
from staybars.tides import net_heaps
from tests.desks import Told, Wrong, done, drawn_deed, is_form
from tests.drawn import stretches
from tests.helpers import Checks, outcome
from tests.rooms import PRIMES
from tests.test_netlines import NO_WAYS, WAYS, nets_drawn
from tests.test_nets import TRIP

KINDS = ("groups", "rings")
NO_KINDS = [None, True, 0, "", "group", "Groups", "unions", ["groups"], ("rings",), {}, 10 ** 40]
BOTH = [(kind, way) for kind in KINDS for way in WAYS]


def heap_told(net, kind, way, p=3):
    """The heap of a net's own line."""
    return heap_of_line((groups_line if kind == "groups" else rings_line)(net, way, p))


def turned(elder, later):
    """What went and what came, stretch by stretch."""
    one, other = ({(a, b): often for a, b, often in heap} for heap in (elder, later))
    gone = [(a, b, one[a, b] - other.get((a, b), 0)) for a, b in sorted(one) if one[a, b] > other.get((a, b), 0)]
    come = [(a, b, other[a, b] - one.get((a, b), 0)) for a, b in sorted(other) if other[a, b] > one.get((a, b), 0)]
    return tuple(gone), tuple(come)


def drawn_desks(seed, often, most_points=5, most_ties=7, steps=10):
    """Desks after some right deeds, and the same told anew."""
    for rng, net in nets_drawn(seed, often, most_points, most_ties):
        desk, model = Desk(net), Told(net)
        for _ in range(steps):
            deed = drawn_deed(rng, model.net(), 0)
            try:
                model.do(deed)
            except Wrong:
                continue
            desk.do(deed)
        yield rng, desk, model


def ranks(net, kind, way):
    places = 2 * net[0] + 1
    heap = heap_told(net, kind, way)
    return {(a, b): bars_covering(places, heap, a, b) for a, b in stretches(places)}


class TestHeaps(Checks):
    def test_heaps_and_stories_against_the_nets_own_lines(self):
        for rng, desk, model in drawn_desks(501, 8):
            nets = model.nets()
            for kind, way in BOTH:
                p = rng.choice(PRIMES)
                self.assertEqual(desk.heap(kind, way=way), heap_told(desk.net, kind, way, p))
                story = desk.story(kind, way=way)
                self.assertEqual([type(story), story], [list, [heap_told(net, kind, way, p) for net in nets]])
                self.assertEqual(desk.heap(kind, way=way), net_heaps(desk.net, way)[KINDS.index(kind)])
            for kind in KINDS:
                self.assertEqual([desk.heap(kind), desk.story(kind)], [desk.heap(kind, way="unions"), desk.story(kind, way="unions")])

    def test_turnovers(self):
        changed = 0
        for rng, desk, model in drawn_desks(502, 10):
            nets = model.nets()
            for kind, way in BOTH:
                heaps = [heap_told(net, kind, way) for net in nets]
                if len(heaps) > 1:
                    told = desk.change(kind, way=way)
                    self.assertEqual(told, turned(heaps[-2], heaps[-1]))
                    changed += told != ((), ())
                    self.assertEqual(desk.change(kind), desk.change(kind, way="unions"))
                for _ in range(4):
                    deed = drawn_deed(rng, desk.net, 0)
                    try:
                        net = done(desk.net, deed)[0]
                    except Wrong as wrong:
                        error = outcome(lambda: desk.tried(deed, kind, way=way))[1]
                        wanted = [wrong.name, wrong.value] if is_form(deed) else ["BadDeed", deed]
                        self.assertEqual([type(error).__name__, error.value], wanted)
                        continue
                    self.assertEqual(desk.tried(deed, kind, way=way), turned(heaps[-1], heap_told(net, kind, way)))
                    self.assertEqual(desk.tried(deed, kind), desk.tried(deed, kind, way="unions"))
        self.assertGreater(changed, 30)

    def test_since_a_mark(self):
        changed = 0
        for rng, desk, model in drawn_desks(503, 25, 5, 7, 4):
            desk.mark("then")
            elder = desk.net
            for _ in range(6):
                outcome(lambda: desk.do(drawn_deed(rng, desk.net, 0)))
            for _ in range(rng.randrange(8)):
                outcome(desk.undo)
            for kind, way in BOTH:
                wanted = turned(heap_told(elder, kind, way), heap_told(desk.net, kind, way))
                changed += wanted != ((), ())
                self.assertEqual(desk.since("then", kind, way=way), wanted)
            self.assertEqual(desk.since("then", "groups"), desk.since("then", "groups", way="unions"))
            desk.back("then")
            self.assertEqual(desk.since("then", "groups", way="meets"), ((), ()))
        self.assertGreater(changed, 20)

    def test_trying_changes_nothing(self):
        for rng, desk, model in drawn_desks(504, 10):
            outcome(desk.undo)
            before = desk.deeds(), desk.net, desk.is_marked("a")
            for _ in range(5):
                outcome(lambda: desk.tried(drawn_deed(rng, desk.net), "groups"))
            self.assertEqual((desk.deeds(), desk.net, desk.is_marked("a")), before)
            if len(model.standing) > len(before[0]):
                desk.redo()
                self.assertEqual(desk.deeds(), model.standing)

    def test_windows_are_of_the_days_alone(self):
        for rng, desk, _ in drawn_desks(505, 25):
            last = desk.net[0]
            for first, end in {(rng.randrange(last + 1), rng.randrange(last + 1)) for _ in range(5)} | {(0, last), (last, last)}:
                if first <= end:
                    for kind, way in BOTH:
                        told = desk.window(first, end, kind, way=way)
                        self.assertEqual(told, heap_told(cut_days(desk.net, first, end)[0], kind, way))
                        self.assertEqual(told, cut_heap(2 * last + 1, desk.heap(kind, way=way), 2 * first, 2 * end))
                    self.assertEqual(desk.window(first, end, "groups"), desk.window(first, end, "groups", way="unions"))

    def test_known_ones(self):
        desk = Desk((1, (), ()))
        desk.do_all([("come", 0, 1), ("come", 0, 1), ("bind", 0, 1, 0, 0)])
        self.assertEqual([desk.heap("groups"), desk.heap("groups", way="meets")], [((0, 2, 1), (2, 2, 1)), ((0, 2, 1), (1, 2, 1))])
        self.assertEqual([desk.change("groups"), desk.tried(("cut", 0), "groups")], [(((0, 2, 1),), ((2, 2, 1),)), (((2, 2, 1),), ((0, 2, 1),))])
        self.assertEqual([desk.window(1, 1, "groups"), desk.heap("rings")], [((0, 0, 2),), ()])
        desk.undo()
        self.assertEqual([desk.change("groups"), desk.story("groups")], [((), ((0, 2, 1),)), [(), ((0, 2, 1),), ((0, 2, 2),)]])
        # What stands oftener in both is told by how much more alone.
        self.assertEqual(desk.tried(("come", 0, 1), "groups"), ((), ((0, 2, 1),)))
        # Stretches are held against one another as they are, whatever days their places are.
        self.assertEqual(desk.tried(("last", 2), "groups"), (((0, 2, 2),), ((0, 3, 2),)))
        self.assertEqual(desk.tried(("last", 2), "groups", way="meets"), ((), ()))


class TestFacts(Checks):
    def nets(self, seed, often, most_points=4, most_ties=6):
        for rng, net in nets_drawn(seed, often, most_points, most_ties):
            yield rng, net

    def test_a_point_that_comes_and_goes(self):
        for rng, net in self.nets(511, 80):
            if len(net[1]) < 7:
                last = net[0]
                first = rng.randrange(last + 1)
                end = rng.randrange(first, last + 1)
                desk = Desk(net)
                point = desk.come(first, end)
                bar = {"unions": (max(0, 2 * first - 1), min(2 * last, 2 * end + 1)), "meets": (2 * first, 2 * end)}
                for way in WAYS:
                    self.assertEqual(desk.change("groups", way=way), ((), (bar[way] + (1,),)))
                    self.assertEqual(desk.change("rings", way=way), ((), ()))
                    self.assertEqual(desk.tried(("go", point), "groups", way=way), ((bar[way] + (1,),), ()))
                    self.assertEqual(desk.tried(("go", point), "rings", way=way), ((), ()))

    def deeds_on(self, seed, often, words):
        """Nets ahead of a deed with one of these words and behind it."""
        for rng, net in self.nets(seed, often):
            for word in words:
                for _ in range(3):
                    deed = drawn_deed(rng, net, 0, [word])
                    try:
                        yield word, net, done(net, deed)[0]
                    except Wrong:
                        continue

    def test_a_tie_changes_no_rank_by_more_than_one(self):
        seen = set()
        for word, net, behind in self.deeds_on(512, 20, ("bind", "cut", "days")):
            for way in WAYS:
                for kind in KINDS:
                    elder, later = ranks(net, kind, way), ranks(behind, kind, way)
                    differences = {later[stretch] - elder[stretch] for stretch in elder}
                    seen.update((word, kind, n) for n in differences)
                    if kind == "groups":
                        self.assertTrue(differences <= {-1, 0, 1})
                    elif word == "bind":
                        self.assertTrue(differences <= {0, 1})
                    elif word == "cut":
                        self.assertTrue(differences <= {0, -1})
        for step in [("bind", "groups", -1), ("bind", "rings", 1), ("cut", "groups", 1), ("cut", "rings", -1), ("days", "groups", 1), ("days", "groups", -1)]:
            self.assertIn(step, seen)

    def test_a_points_other_life(self):
        seen = set()
        for _, net, behind in self.deeds_on(513, 60, ("life",)):
            for way in WAYS:
                elder, later = ranks(net, "groups", way), ranks(behind, "groups", way)
                differences = {later[stretch] - elder[stretch] for stretch in elder}
                seen.update(differences)
                self.assertTrue(differences <= {-1, 0, 1})
                self.assertEqual(ranks(net, "rings", way), ranks(behind, "rings", way))
        self.assertEqual(seen, {-1, 0, 1})

    def test_the_days_in_the_other_sequence(self):
        for _, net in self.nets(514, 60, 7, 9):
            desk = Desk(net)
            before = {pair: desk.heap(pair[0], way=pair[1]) for pair in BOTH}
            desk.turn()
            for kind, way in BOTH:
                self.assertEqual(desk.heap(kind, way=way), mirrored_heap(2 * net[0] + 1, before[kind, way]))

    def test_a_later_last_day(self):
        for _, net in self.nets(515, 60, 7, 9):
            n = 2 * net[0]
            for more in (1, 2, 8 - net[0]):
                if 0 < more <= 8 - net[0]:
                    desk = Desk(net)
                    before = {pair: desk.heap(pair[0], way=pair[1]) for pair in BOTH}
                    desk.set_last(net[0] + more)
                    for kind in KINDS:
                        self.assertEqual(desk.heap(kind, way="meets"), before[kind, "meets"])
                        wanted = sorted((a, b + (b == n), often) for a, b, often in before[kind, "unions"])
                        self.assertEqual(desk.heap(kind, way="unions"), tuple(wanted))

    def test_an_earlier_last_day_beyond_which_nothing_lives(self):
        rng = random.Random(516)
        looked = 0
        for _, net in self.nets(517, 80, 3, 4):
            ends = [end for _, end in net[1]]
            least = max(ends) if ends else 0
            if least < net[0]:
                looked += 1
                day = rng.randrange(least, net[0])
                desk = Desk(net)
                before = {pair: desk.heap(pair[0], way=pair[1]) for pair in BOTH}
                desk.set_last(day)
                for kind, way in BOTH:
                    self.assertEqual(desk.heap(kind, way=way), cut_heap(2 * net[0] + 1, before[kind, way], 0, 2 * day))
        self.assertGreater(looked, 10)


class TestErrors(Checks):
    def desk(self):
        desk = Desk(TRIP)
        desk.mark("a")
        desk.turn()
        return desk

    def calls(self, desk):
        """Each function of heaps, by kind and way, its other arguments right."""
        return [
            desk.heap, desk.change, desk.story, lambda kind, **way: desk.since("a", kind, **way),
            lambda kind, **way: desk.tried(("turn",), kind, **way), lambda kind, **way: desk.window(0, 1, kind, **way),
        ]

    def test_kinds_ahead_of_ways(self):
        desk = self.desk()
        for call in self.calls(desk):
            for kind in NO_KINDS:
                self.raises(BadKind, kind, call, kind)
                self.raises(BadKind, kind, lambda: call(kind, way=None))
            for way in NO_WAYS:
                self.raises(BadWay, way, lambda: call("rings", way=way))
        self.assertEqual([desk.deeds(), desk.net[0]], [[("turn",)], 3])

    def test_their_own_errors_ahead_of_kinds(self):
        desk = self.desk()
        for name in (None, "b", "A", "", ["a"], 1):
            self.raises(BadMark, name, lambda: desk.since(name, None, way=None))
        for first, end in ((None, 0), (0, None), (2, 1), (0, 4), (-1, 0), (True, 1), ("0", 1), ([], {})):
            self.raises_tuple(BadDays, (first, end), lambda: desk.window(first, end, None, way=None))
        told, error = outcome(lambda: desk.tried(("go", 9), None, way=None))
        self.assertEqual([type(error).__name__, error.value], ["BadPoint", 9])
        self.raises(BadKind, None, lambda: desk.tried(("turn",), None, way=None))

    def test_no_deed_comes_last(self):
        desk = Desk(TRIP)
        for kind in NO_KINDS:
            self.raises(BadKind, kind, desk.change, kind)
        for way in NO_WAYS:
            self.raises(BadWay, way, lambda: desk.change("groups", way=way))
        told, error = outcome(lambda: desk.change("groups", way="meets"))
        self.assertEqual([type(error), error.value], [NoDeed, "change"])
        desk.turn()
        desk.undo()
        self.assertEqual(outcome(lambda: desk.change("groups"))[1].value, "change")

    def test_the_way_is_passed_by_its_name_alone(self):
        desk = self.desk()
        for call, args in (
            (desk.heap, ("groups",)), (desk.change, ("groups",)), (desk.story, ("groups",)), (desk.since, ("a", "groups")),
            (desk.tried, (("turn",), "groups")), (desk.window, (0, 1, "groups")),
        ):
            with self.assertRaises(TypeError):
                call(*args, "unions")
        self.assertEqual(desk.window(kind="groups", end=1, first=0, way="meets"), desk.window(0, 1, "groups", way="meets"))


if __name__ == "__main__":
    unittest.main()
