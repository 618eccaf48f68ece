"""Flags: birthdays and deathdays of entries, and the bars that they tell."""

from staybars.bars import piled
from staybars.entries import is_entry
from staybars.errors import BadEntry
from staybars.lines import FORTH, check_line, mirrored_line
from staybars.spans import fetched_base, is_held, led_base
from staybars.sums import same_rows


def kept_steps(steps):
    """The steps (day, part) without those that are no wider than what stands next ahead."""
    kept = []
    width = 0
    for day, part in steps:
        if len(part) > width:
            kept.append((day, part))
            width = len(part)
    return tuple(kept)


def flag_on(line, k, flag):
    """The left flag of the line cut off behind k + 1, by the one of the line cut off behind k."""
    p, widths, maps = line
    sign, table = maps[k]
    if sign == FORTH:
        led = [(day, led_base(p, widths[k + 1], table, part)) for day, part in flag]
        return kept_steps(led + [(k + 1, same_rows(widths[k + 1]))])
    fetched = [(day, fetched_base(p, widths[k], table, part)) for day, part in flag]
    return kept_steps([(k + 1, fetched_base(p, widths[k], table, ()))] + fetched)


def flags_of(line):
    """The list with the left flag of the line cut off behind each place."""
    check_line(line)
    flags = [kept_steps([(0, same_rows(line[1][0]))])]
    for k in range(len(line[2])):
        flags.append(flag_on(line, k, flags[k]))
    return flags


def left_flag(line):
    """The tuple of (birthday, part) of the last place, ascending in the chain."""
    return flags_of(line)[-1]


def right_flag(line):
    """The tuple of (deathday, part) of place 0, ascending in the chain."""
    check_line(line)
    last = len(line[2])
    return tuple([(last - day, part) for day, part in left_flag(mirrored_line(line))])


def day_of(p, width, flag, entry):
    """The day of the first part that holds an entry; BadEntry for nought and for what is none."""
    if not is_entry(p, width, entry) or not any(entry):
        raise BadEntry(entry)
    number = 0
    while not is_held(p, flag[number][1], entry):
        number += 1
    return flag[number][0]


def birthday_of(line, entry):
    """The birthday of an entry of the last room."""
    flag = left_flag(line)
    return day_of(line[0], line[1][-1], flag, entry)


def deathday_of(line, entry):
    """The deathday of an entry of the room at place 0."""
    flag = right_flag(line)
    return day_of(line[0], line[1][0], flag, entry)


def step_widths(flag):
    """The dict of the widths of a flag's steps by their days, in the sequence of the chain."""
    widths = {}
    beneath = 0
    for day, part in flag:
        widths[day] = len(part) - beneath
        beneath = len(part)
    return widths


def births_of(line):
    """The dict of the widths of the left flag's steps by their birthdays."""
    return step_widths(left_flag(line))


def deaths_of(line):
    """The dict of the widths of the right flag's steps by their deathdays."""
    return step_widths(right_flag(line))


def piles_ending(k, here, there):
    """The piles of the bars that end at place k, by the steps here and one place further on."""
    ending = [(a, k, here[a] - there.get(a, 0)) for a in here]
    return [pile for pile in ending if pile[2] > 0]


def ended_piles(flags):
    """The piles of the bars that do not come to the last place, by the flags of all places."""
    piles = []
    for k in range(len(flags) - 1):
        piles.extend(piles_ending(k, step_widths(flags[k]), step_widths(flags[k + 1])))
    return piles


def ended_bars(line):
    """The heap of those bars of the line that do not come to its last place."""
    return piled(ended_piles(flags_of(line)))


def heap_of_line(line):
    """The heap of all bars of the line."""
    flags = flags_of(line)
    coming = piles_ending(len(flags) - 1, step_widths(flags[-1]), {})
    return piled(ended_piles(flags) + coming)
