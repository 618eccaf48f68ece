"""[22], stage 28: windows on lines that grow, shrink and are changed."""

import itertools
import random
import unittest

from staybars.bars import cut_heap
from staybars.errors import BadLine, BadMark, BadPlace, BadSign, BadTable, BadWidth, TooLong, TooShort
from staybars.flags import heap_of_line
from staybars.lines import cut_line, is_line
from staybars.windows import Window
from tests.drawn import drawn_lines, heap_by_ranks, nought_table, stretches
from tests.helpers import Checks, odd_values, outcome
from tests.rooms import PRIMES, random_line, random_table

L = (5, (1, 2, 1), ((">", ((1, 0),)), ("<", ((1, 1),))))
METHODS = """first_place line_now heap_now lives_now push_right push_left pop_right pop_left put_map mark_now go_back fork_window""".split()


class Model:
    """The places of a window, each with its number and width, and the map behind each but the last."""

    def __init__(self, line):
        self.p = line[0]
        self.rooms = list(enumerate(line[1]))
        self.maps = list(line[2])
        self.marks = []

    def line(self):
        return self.p, tuple(width for _, width in self.rooms), tuple(self.maps)

    def state(self):
        return list(self.rooms), list(self.maps)

    def counts(self):
        """How often each stretch of numbers of places stands."""
        first = self.rooms[0][0]
        return {(a + first, b + first): often for a, b, often in heap_of_line(self.line())}


def heap_of_counts(counts):
    return tuple((a, b, counts[a, b]) for a, b in sorted(counts) if counts[a, b])


def more_of(one, other):
    return heap_of_counts({bar: max(0, often - other.get(bar, 0)) for bar, often in one.items()})


def drawn_map(rng, p, sign, here, there):
    """A table for this sign between neighbours of these widths."""
    return random_table(rng, p, *((here, there) if sign == ">" else (there, here)))


class TestWindow(Checks):
    def standing(self, window, model, counted=False):
        """The window stands as the model does."""
        line = model.line()
        self.assertEqual([window.line_now(), window.first_place()], [line, model.rooms[0][0]])
        self.assertEqual(window.heap_now(), heap_of_line(line))
        self.assertEqual(window.lives_now(), heap_of_counts(model.counts()))
        self.assertTrue(is_line(window.line_now()))
        if counted:
            self.assertEqual(window.heap_now(), heap_by_ranks(line))

    def deed(self, rng, window, model):
        """One deed drawn, done with both; the turnover is held against the heaps by numbers."""
        kind = rng.choice(["right", "left", "map", "map", "pop right", "pop left"])
        sign, elder = rng.choice("<>"), model.counts()
        width = rng.randrange(3)
        if kind in ("right", "left") and len(model.rooms) < 17:
            number, edge = model.rooms[-1 if kind == "right" else 0]
            neighbours = (edge, width) if kind == "right" else (width, edge)
            table = drawn_map(rng, model.p, sign, *neighbours)
            if kind == "right":
                model.rooms.append((number + 1, width))
                model.maps.append((sign, table))
                told = window.push_right(sign, width, table)
            else:
                model.rooms.insert(0, (number - 1, width))
                model.maps.insert(0, (sign, table))
                told = window.push_left(sign, width, table)
        elif kind == "map" and model.maps:
            at = rng.randrange(len(model.maps))
            table = drawn_map(rng, model.p, sign, model.rooms[at][1], model.rooms[at + 1][1])
            model.maps[at] = (sign, table)
            told = window.put_map(model.rooms[at][0], sign, table)
        elif kind.startswith("pop") and len(model.rooms) > 1:
            at = -1 if kind == "pop right" else 0
            del model.rooms[at], model.maps[at]
            told = window.pop_right() if at == -1 else window.pop_left()
        else:
            return None
        later = model.counts()
        self.assertEqual(told, (more_of(elder, later), more_of(later, elder)))
        self.assertIs(type(told), tuple)
        return told

    def test_deeds_one_after_the_other(self):
        rng = random.Random(481)
        changed = 0
        for number in range(40):
            p = PRIMES[number % 4]
            line = random_line(rng, p, [rng.randrange(3) for _ in range(rng.randrange(1, 6))])
            window, model = Window(line), Model(line)
            self.standing(window, model)
            for _ in range(25):
                told = self.deed(rng, window, model)
                changed += told not in (None, ((), ()))
                self.standing(window, model)
        self.assertGreater(changed, 300)

    def test_small_ones_by_ranks_counted(self):
        rng = random.Random(482)
        for _ in range(15):
            line = random_line(rng, 2, [rng.randrange(3) for _ in range(3)])
            window, model = Window(line), Model(line)
            for _ in range(8):
                if len(model.rooms) > 4:
                    window.pop_left()
                    del model.rooms[0], model.maps[0]
                self.deed(rng, window, model)
                self.standing(window, model, True)

    def test_marks_and_forks(self):
        rng = random.Random(483)
        for number in range(25):
            line = random_line(rng, PRIMES[number % 4], [rng.randrange(3) for _ in range(3)])
            pairs = [(Window(line), Model(line))]
            for _ in range(40):
                window, model = rng.choice(pairs)
                kind = rng.randrange(6)
                if kind == 0:
                    self.assertEqual(window.mark_now(), len(model.marks))
                    model.marks.append(model.state())
                elif kind == 1 and model.marks:
                    back = rng.randrange(len(model.marks))
                    self.assertIsNone(window.go_back(back))
                    rooms, maps = model.marks[back]
                    model.rooms, model.maps = list(rooms), list(maps)
                elif kind == 2 and len(pairs) < 4:
                    other = Model(line)
                    other.rooms, other.maps, other.marks = list(model.rooms), list(model.maps), list(model.marks)
                    pairs.append((window.fork_window(), other))
                    self.assertIs(type(pairs[-1][0]), Window)
                else:
                    self.deed(rng, window, model)
                for each in pairs:
                    self.standing(*each)
                    self.raises(BadMark, len(each[1].marks), each[0].go_back, len(each[1].marks))

    def test_all_marks_stay(self):
        window = Window(L)
        self.assertEqual(window.mark_now(), 0)
        window.push_left("<", 1, ((1,),))
        self.assertEqual(window.mark_now(), 1)
        window.pop_right()
        self.assertIsNone(window.go_back(0))
        self.assertEqual([window.line_now(), window.first_place(), window.mark_now()], [L, 0, 2])
        window.go_back(1)
        self.assertEqual([window.first_place(), window.lives_now()], [-1, ((-1, 1, 1), (1, 2, 1))])
        fork = window.fork_window()
        self.assertEqual([fork.mark_now(), fork.mark_now(), window.mark_now()], [3, 4, 3])
        fork.go_back(4)
        self.raises(BadMark, 4, window.go_back, 4)
        window.pop_left()
        self.assertEqual([fork.first_place(), window.first_place(), fork.lives_now()], [-1, 0, ((-1, 1, 1), (1, 2, 1))])

    def test_known_ones(self):
        window = Window(L)
        self.assertEqual([window.lives_now(), window.pop_right()], [((0, 1, 1), (1, 2, 1)), (((1, 2, 1),), ((1, 1, 1),))])
        self.assertEqual(window.push_left("<", 1, ((1,),)), (((0, 1, 1),), ((-1, 1, 1),)))
        self.assertEqual([window.first_place(), window.heap_now()], [-1, ((0, 2, 1), (2, 2, 1))])
        self.assertEqual(window.put_map(0, ">", ((0, 0),)), (((-1, 1, 1),), ((-1, 0, 1), (1, 1, 1))))
        self.assertEqual(window.put_map(0, ">", ((0, 0),)), ((), ()))
        self.assertEqual([window.pop_left(), window.first_place()], [(((-1, 0, 1),), ((0, 0, 1),)), 0])
        self.assertEqual([window.pop_left(), window.first_place(), window.lives_now()], [(((0, 0, 1),), ()), 1, ((1, 1, 2),)])
        self.assertEqual([window.push_left(">", 2, ((1, 0), (0, 0))), window.lives_now()], [(((1, 1, 1),), ((0, 0, 1), (0, 1, 1))), ((0, 0, 1), (0, 1, 1), (1, 1, 1))])

    def test_cut_lines_have_cut_heaps(self):
        rng = random.Random(484)
        for p, heap, signs, line in drawn_lines(rng, 20, 4, 7):
            places = len(line[1])
            for first, last in stretches(places):
                window = Window(line)
                for _ in range(first):
                    window.pop_left()
                for _ in range(places - 1 - last):
                    window.pop_right()
                self.assertEqual([window.line_now(), window.first_place()], [cut_line(line, first, last), first])
                self.assertEqual(window.heap_now(), cut_heap(places, heap, first, last))

    def test_what_was_told_stays(self):
        window = Window(L)
        told = window.line_now(), window.heap_now(), window.lives_now()
        window.pop_right()
        self.assertEqual(told, (L, ((0, 1, 1), (1, 2, 1)), ((0, 1, 1), (1, 2, 1))))


class TestErrors(Checks):
    def unchanged(self, window, kind, value, call, *args):
        before = window.line_now(), window.first_place(), window.lives_now(), window.heap_now()
        self.raises(kind, value, call, *args)
        self.assertEqual((window.line_now(), window.first_place(), window.lives_now(), window.heap_now()), before)

    def test_no_lines(self):
        for odd in odd_values():
            if not is_line(odd):
                self.raises(BadLine, odd, Window, odd)
        self.assertEqual(Window(line=(2, (0,), ())).lives_now(), ())

    def test_17_places_and_one(self):
        for p in (2, 7):
            line = (p, (1,) * 17, ((">", ((1,),)),) * 16)
            window = Window(line)
            for push in (window.push_right, window.push_left):
                for sign, width, table in ((">", 1, ((1,),)), ("<", 1, ((0,),)), (">", 0, ((),) if push == window.push_right else ())):
                    self.unchanged(window, TooLong, 17, push, sign, width, table)
            window.pop_left()
            self.assertEqual(window.push_right(">", 1, ((1,),)), (((1, 16, 1),), ((1, 17, 1),)))
            self.unchanged(window, TooLong, 17, window.push_left, ">", 1, ((1,),))
            for _ in range(16):
                window.pop_right()
            for pop in (window.pop_right, window.pop_left):
                self.unchanged(window, TooShort, 1, pop)
            self.assertEqual([window.line_now(), window.first_place()], [(p, (1,), ()), 1])

    def test_in_their_sequence(self):
        window = Window((5, (1, 2) + (0,) * 14 + (1,), ((">", ((1, 0),)), (">", ((), ()))) + ((">", ()),) * 14))
        for push, right in ((window.push_right, ((1,),)), (window.push_left, ((1,),))):
            for sign in (None, True, "", "=", [">"], (">",), ">>", 10 ** 40):
                self.unchanged(window, BadSign, sign, push, sign, None, None)
            for width in (None, True, False, -1, 9, "1", [1], (1,)):
                self.unchanged(window, BadWidth, width, push, ">", width, None)
            for table in odd_values() + [((5,),), ((True,),), [(1,)], ((1,), (1,)), ((1, 0),)]:
                if table != right or type(table[0][0]) is bool:
                    self.unchanged(window, BadTable, table, push, "<", 1, table)
            self.unchanged(window, TooLong, 17, push, "<", 1, right)
        for k in (None, True, False, -1, 16, 17, "0", [0], (0,), 10 ** 40):
            self.unchanged(window, BadPlace, k, window.put_map, k, None, None)
        for sign in (None, "", "=", [">"]):
            self.unchanged(window, BadSign, sign, window.put_map, 0, sign, None)
        for table in (None, [], (), ((1,),), ((1, 5),), ((1, 0), (0, 1)), [(1, 0)], ((True, 0),)):
            self.unchanged(window, BadTable, table, window.put_map, 0, ">", table)

    def test_places_have_their_numbers(self):
        window = Window(L)
        window.push_left("<", 1, ((1,),))
        window.push_left(">", 0, ())
        self.assertEqual(window.first_place(), -2)
        for k in (-3, 2, 3):
            self.unchanged(window, BadPlace, k, window.put_map, k, ">", None)
        for k in (-2, -1, 0, 1):
            self.assertEqual(outcome(lambda: window.put_map(k, ">", None))[1].__class__, BadTable)
        window.pop_left()
        self.unchanged(window, BadPlace, -2, window.put_map, -2, ">", ())
        alone = Window((5, (1,), ()))
        self.unchanged(alone, BadPlace, 0, alone.put_map, 0, ">", ((1,),))

    def test_marks(self):
        window = Window(L)
        for number in (0, 1, -1, None, True, False, "0", [0], (0,), 10 ** 40, {}):
            self.unchanged(window, BadMark, number, window.go_back, number)
        window.mark_now()
        for number in (1, -1, None, True, False, "0", [0]):
            self.unchanged(window, BadMark, number, window.go_back, number)

    def test_methods_stand_in_the_class_itself(self):
        for name in METHODS:
            self.assertIn(name, vars(Window))
        self.assertEqual(Window.__module__, "staybars.windows")

    def test_tables_beside_both_ends(self):
        for sign, width in itertools.product("<>", range(3)):
            window = Window(L)
            right = nought_table(*((1, width) if sign == ">" else (width, 1)))
            window.push_right(sign=sign, table=right, width=width)
            self.assertEqual([window.line_now()[1], window.line_now()[2][-1]], [(1, 2, 1, width), (sign, right)])
            left = nought_table(*((width, 1) if sign == ">" else (1, width)))
            window.push_left(table=left, width=width, sign=sign)
            self.assertEqual([window.line_now()[1], window.line_now()[2][0]], [(width, 1, 2, 1, width), (sign, left)])


if __name__ == "__main__":
    unittest.main()
