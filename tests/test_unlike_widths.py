"""Backs where rooms are not equally wide: a table that leads to a room of another width has none."""

import itertools
import random

from staybars.alike import alike_crossing, back_crossing
from staybars.errors import BadBases, BadTable
from staybars.halves import is_way, way_between
from staybars.lines import changed_line
from staybars.tables import back_of
from staybars.ways import goes_along
from tests.drawn import nought_table, random_signs, same_rows
from tests.helpers import Checks
from tests.rooms import all_entries, random_line, random_table


def tables_from_to(p, a, b):
    """All tables from width a to width b."""
    return itertools.product(all_entries(p, b), repeat=a)


def line_of_widths(p, widths, signs):
    """The line of these widths that leads all to nought."""
    maps = []
    for k, sign in enumerate(signs):
        a, b = (widths[k], widths[k + 1]) if sign == ">" else (widths[k + 1], widths[k])
        maps.append((sign, nought_table(a, b)))
    return p, tuple(widths), tuple(maps)


def pairs_of_unlike_widths():
    """Fellows of two places whose first rooms have unlike widths, and whose last ones have the same."""
    for sign in "><":
        for first, second, last in itertools.product(range(3), range(3), range(3)):
            if first != second:
                yield [line_of_widths(2, (width, last), (sign,)) for width in (first, second)]


class TestWays(Checks):
    def test_no_tuple_of_tables_is_a_way(self):
        going = 0
        for one, other in pairs_of_unlike_widths():
            squares = [list(tables_from_to(2, a, b)) for a, b in zip(one[1], other[1])]
            for value in itertools.product(*squares):
                going += goes_along(one, other, value)
                self.tells(False, is_way, one, other, value)
            self.assertIsNone(way_between(one, other))
        self.assertGreater(going, 100)

    def test_tables_of_the_other_widths(self):
        for one, other in pairs_of_unlike_widths():
            for line in (one, other):
                value = tuple(same_rows(width) for width in line[1])
                self.tells(False, is_way, one, other, value)
                self.tells(True, is_way, line, line, value)

    def test_drawn_lines_of_more_places(self):
        rng = random.Random(301)
        for number in range(60):
            places = rng.randrange(2, 6)
            signs = random_signs(rng, places)
            widths = [rng.randrange(4) for _ in range(places)]
            at = rng.randrange(places - 1)
            other_widths = widths[:at] + [0 if widths[at] else rng.randrange(1, 4)] + widths[at + 1:]
            one, other = (line_of_widths(2, held, signs) for held in (widths, other_widths))
            value = tuple(random_table(rng, 2, a, b) for a, b in zip(one[1][:-1], other[1])) + (same_rows(widths[-1]),)
            self.tells(False, is_way, one, other, value)
            noughts = tuple(nought_table(a, b) for a, b in zip(one[1], other[1]))
            self.tells(False, is_way, one, other, noughts)
            self.tells(False, is_way, one, other, noughts[:-1] + (same_rows(widths[-1]),))
            self.assertEqual([way_between(one, other), way_between(other, one)], [None, None])
            self.tells(True, is_way, one, one, tuple(same_rows(width) for width in widths))

    def test_the_fault_that_was_told(self):
        one, other = (5, (0, 0), ((">", ()),)), (5, (2, 0), ((">", ((), ())),))
        self.tells(False, is_way, one, other, ((), ()))
        self.tells(False, is_way, other, one, (((), ()), ()))


class TestOthersThatSpeakOfABack(Checks):
    def test_back_of(self):
        self.assertEqual(back_of(5, ()), ())
        for table in [((), ()), ((1, 0),), ((1,), (0,)), ((),), ((0, 0), (0, 0), (0, 0))]:
            self.raises(BadTable, table, back_of, 5, table)

    def test_changed_line(self):
        rng = random.Random(302)
        for widths in ((0, 0), (2, 0), (0, 2), (2, 1)):
            line = random_line(rng, 5, widths)
            right = tuple(same_rows(width) for width in widths)
            self.assertEqual(changed_line(line, right), line)
            for at, width in enumerate(widths):
                for a, b in itertools.product(range(3), repeat=2):
                    bases = right[:at] + (tuple((1,) * b for _ in range(a)),) + right[at + 1:]
                    # () is the only table from a room 0 wide to itself.
                    if (a, b) != (width, width) and not a == width == 0:
                        self.raises(BadBases, bases, changed_line, line, bases)

    def test_crossings(self):
        going = 0
        for one, other in pairs_of_unlike_widths():
            self.assertEqual([alike_crossing(one, other), alike_crossing(other, one)], [None, None])
            squares = [list(tables_from_to(2, a, b)) for a, b in zip(one[1], other[1])]
            for value in itertools.product(*squares):
                if goes_along(one, other, value):
                    going += 1
                    self.assertIsNone(back_crossing(one, other, value))
        self.assertGreater(going, 100)
        none = line_of_widths(2, (0, 0), (">",))
        self.assertEqual([alike_crossing(none, none), back_crossing(none, none, ((), ()))], [((), ()), ((), ())])
