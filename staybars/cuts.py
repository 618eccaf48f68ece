"""Cuts: what stands over one place of a line, ahead of it and behind it."""

from staybars.bars import piled
from staybars.chains import meet_widths, share_at
from staybars.flags import flags_of, heap_of_line, right_flag
from staybars.lines import check_line, check_line_place, cut_line


def check_place(line, k):
    """Raise BadLine for what is no line, then BadPlace for what is no place of it."""
    check_line(line)
    check_line_place(line, k)


def days_of_steps(flag):
    """The list of the days of a flag's steps."""
    return [day for day, _ in flag]


def parts_of_steps(flag):
    """The chain of a flag's parts."""
    return tuple([part for _, part in flag])


def cut_at(line, k):
    """The birthdays and deathdays at place k, and the widths of the meets of their parts."""
    left = flags_of(line)[k]
    right = right_flag(cut_line(line, k, len(line[2])))
    widths = meet_widths(line[0], line[1][k], parts_of_steps(left), parts_of_steps(right))
    return days_of_steps(left), [day + k for day in days_of_steps(right)], widths


def meets_at(line, k):
    """The dict of all (birthday, deathday) at place k with the width of the meet of the parts."""
    check_place(line, k)
    births, deaths, widths = cut_at(line, k)
    return {(a, b): widths[i][j] for i, a in enumerate(births) for j, b in enumerate(deaths)}


def bars_over(line, k):
    """The heap of the bars over place k, told by the widths of the meets."""
    check_place(line, k)
    births, deaths, widths = cut_at(line, k)
    piles = [(a, b, share_at(widths, i, j)) for i, a in enumerate(births) for j, b in enumerate(deaths)]
    return piled([pile for pile in piles if pile[2] > 0])


def bars_ahead(line, k):
    """The heap of the bars that end ahead of place k."""
    check_place(line, k)
    return tuple([pile for pile in heap_of_line(line) if pile[1] < k])


def bars_past(line, k):
    """The heap of the bars that begin behind place k."""
    check_place(line, k)
    return tuple([pile for pile in heap_of_line(line) if pile[0] > k])
