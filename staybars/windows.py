"""Windows: lines that grow, shrink and are changed, whose places keep their numbers."""

from staybars.bars import turnover
from staybars.entries import check_width
from staybars.errors import BadMark, BadPlace, BadTable, TooLong, TooShort
from staybars.flags import heap_of_line
from staybars.joints import check_sign
from staybars.kinds import is_from_to
from staybars.lines import MOST_PLACES, along, check_line
from staybars.tables import is_table


def check_map(p, sign, here, there, table):
    """Raise BadTable for any value that is no table for this sign between neighbours of these widths."""
    a, b = along(sign, here, there)
    if not is_table(p, a, b, table):
        raise BadTable(table)


class Window:
    """A line that can be changed, with the number of its first place, and marks of how it stood."""

    def __init__(self, line):
        check_line(line)
        self._line = line
        self._heap = heap_of_line(line)
        self._start = 0
        self._marks = []

    def first_place(self):
        """The number of the first place."""
        return self._start

    def line_now(self):
        """The line."""
        return self._line

    def heap_now(self):
        """The heap of the line, places from 0."""
        return self._heap

    def lives_now(self):
        """The heap by numbers of places."""
        return tuple([(a + self._start, b + self._start, often) for a, b, often in self._heap])

    def _changed(self, line, start):
        """Let the window stand as this line from this number on; the bars that went and came."""
        elder = self.lives_now()
        self._line = line
        self._heap = heap_of_line(line)
        self._start = start
        return turnover(elder, self.lives_now())

    def _check_room(self):
        """Raise TooLong if no further place can be pushed."""
        if len(self._line[1]) == MOST_PLACES:
            raise TooLong(MOST_PLACES)

    def _check_rest(self):
        """Raise TooShort if no place can be popped."""
        if len(self._line[1]) == 1:
            raise TooShort(1)

    def push_right(self, sign, width, table):
        """A place behind the last one; the bars that went and came."""
        p, widths, maps = self._line
        check_sign(sign)
        check_width(width)
        check_map(p, sign, widths[-1], width, table)
        self._check_room()
        return self._changed((p, widths + (width,), maps + ((sign, table),)), self._start)

    def push_left(self, sign, width, table):
        """A place ahead of the first one; the bars that went and came."""
        p, widths, maps = self._line
        check_sign(sign)
        check_width(width)
        check_map(p, sign, width, widths[0], table)
        self._check_room()
        return self._changed((p, (width,) + widths, ((sign, table),) + maps), self._start - 1)

    def pop_right(self):
        """The last place goes; the bars that went and came."""
        p, widths, maps = self._line
        self._check_rest()
        return self._changed((p, widths[:-1], maps[:-1]), self._start)

    def pop_left(self):
        """The first place goes; the bars that went and came."""
        p, widths, maps = self._line
        self._check_rest()
        return self._changed((p, widths[1:], maps[1:]), self._start + 1)

    def put_map(self, k, sign, table):
        """Another map between the places with the numbers k and k + 1; the bars that went and came."""
        p, widths, maps = self._line
        if not is_from_to(k, self._start, self._start + len(maps) - 1):
            raise BadPlace(k)
        check_sign(sign)
        at = k - self._start
        check_map(p, sign, widths[at], widths[at + 1], table)
        return self._changed((p, widths, maps[:at] + ((sign, table),) + maps[at + 1:]), self._start)

    def mark_now(self):
        """Keep how the window stands; the number of this mark."""
        self._marks.append((self._line, self._heap, self._start))
        return len(self._marks) - 1

    def _stand_as(self, marked):
        """Let the window stand as it was marked."""
        self._line, self._heap, self._start = marked

    def go_back(self, number):
        """Let the window stand as at the mark with this number."""
        if not is_from_to(number, 0, len(self._marks) - 1):
            raise BadMark(number)
        self._stand_as(self._marks[number])

    def fork_window(self):
        """Another window that stands alike and has the same marks."""
        other = Window(self._line)
        other._start = self._start
        other._marks = list(self._marks)
        return other
