"""Joints: what a map between a left half and a right half joins."""

from staybars.bars import piled
from staybars.cuts import bars_past, check_place
from staybars.errors import BadJoining, BadPair, BadPlace, BadSign, BadTable, TooMany
from staybars.flags import births_of, deaths_of, ended_bars, heap_of_line, left_flag, right_flag
from staybars.kinds import is_tuple_long, is_whole
from staybars.lines import MOST_PLACES, along, check_two_lines, is_sign
from staybars.spans import back_rows, rest_rows
from staybars.sums import led_behind, noughts
from staybars.tables import is_table

MOST_JOININGS = 1000


def joining_at(line, k):
    """The tuple of the bars of the line over both k and k + 1."""
    check_place(line, k)
    if k == len(line[2]):
        raise BadPlace(k)
    return tuple([pile for pile in heap_of_line(line) if pile[0] <= k < pile[1]])


def check_two_halves(left, right):
    """Raise BadLine for left, for right, then BadPair if they make no line."""
    check_two_lines(left, right)
    if left[0] != right[0] or len(left[1]) + len(right[1]) > MOST_PLACES:
        raise BadPair((left, right))


def check_sign(sign):
    """Raise BadSign for any value that is none of the two signs."""
    if not is_sign(sign):
        raise BadSign(sign)


def line_with(left, right, sign, table):
    """The line of both halves with this map between."""
    check_two_halves(left, right)
    check_sign(sign)
    a, b = along(sign, left[1][-1], right[1][0])
    if not is_table(left[0], a, b, table):
        raise BadTable(table)
    return left[0], left[1] + right[1], left[2] + ((sign, table),) + right[2]


def deaths_behind(left, right):
    """The dict of the widths of the right half's steps by their deathdays, numbered on from left."""
    deaths = deaths_of(right)
    return {day + len(left[1]): deaths[day] for day in deaths}


def joined_from(joining, a):
    """How many bars born at a a joining joins."""
    return sum([often for first, _, often in joining if first == a])


def joined_to(joining, b):
    """How many bars that die at b a joining joins."""
    return sum([often for _, last, often in joining if last == b])


def is_join(births, deaths, value):
    """Whether any value is (a, b, often) of a birthday and a deathday."""
    if not is_tuple_long(value, 3) or not all([is_whole(number) for number in value]):
        return False
    a, b, often = value
    return a in births and b in deaths and often > 0


def is_joining_by(births, deaths, value):
    """Whether any value is a joining of steps with these widths by their days."""
    if not isinstance(value, tuple) or not all([is_join(births, deaths, join) for join in value]):
        return False
    if any([value[k][:2] >= value[k + 1][:2] for k in range(len(value) - 1)]):
        return False
    if any([joined_from(value, a) > births[a] for a in births]):
        return False
    return all([joined_to(value, b) <= deaths[b] for b in deaths])


def is_joining(left, right, value):
    """Whether any value is a joining of the two halves."""
    check_two_halves(left, right)
    return is_joining_by(births_of(left), deaths_behind(left, right), value)


def check_joining(left, right, value):
    """Raise BadLine for left, for right, BadPair, then BadJoining for what is no joining of the two."""
    if not is_joining(left, right, value):
        raise BadJoining(value)


def heap_joined(left, right, value):
    """The heap of the line of both halves in which the bars are joined so."""
    check_joining(left, right, value)
    births, deaths = births_of(left), deaths_behind(left, right)
    many = len(left[1])
    piles = list(ended_bars(left) + value)
    piles.extend([(a + many, b + many, often) for a, b, often in bars_past(right, 0)])
    piles.extend([(a, many - 1, births[a] - joined_from(value, a)) for a in births])
    piles.extend([(many, b, deaths[b] - joined_to(value, b)) for b in deaths])
    return piled([pile for pile in piles if pile[2] > 0])


def entries_by_day(p, flag, ahead):
    """The dict, by the days of a flag with so many places ahead, of the entries that make up its steps."""
    entries = {}
    beneath = ()
    for day, part in flag:
        entries[day + ahead] = rest_rows(p, beneath, part)
        beneath = part
    return entries


def table_to_partners(p, b, entries, partners):
    """The table to width b that leads a base's entries to their partners, and those without one to nought."""
    led = [partners.get(entry, noughts(b)) for entry in entries]
    return led_behind(p, b, back_rows(p, tuple(entries)), led)


def map_for(left, right, sign, value):
    """Any table by which the line of both halves has the heap of this joining."""
    check_two_halves(left, right)
    check_sign(sign)
    check_joining(left, right, value)
    p = left[0]
    births = entries_by_day(p, left_flag(left), 0)
    deaths = entries_by_day(p, right_flag(right), len(left[1]))
    here, there = along(sign, births, deaths)
    base = [entry for day in here for entry in here[day]]
    partners = {}
    for a, b, often in value:
        first, second = along(sign, a, b)
        for _ in range(often):
            entry = here[first].pop()
            partners[entry] = there[second].pop()
    _, width = along(sign, left[1][-1], right[1][0])
    return table_to_partners(p, width, base, partners)


def joinings_with(found, births, deaths, a, b):
    """The joinings found, and all that come of them if some bars born at a go on to b."""
    more = []
    for joining in found:
        free = min(births[a] - joined_from(joining, a), deaths[b] - joined_to(joining, b))
        more.append(joining)
        more.extend([joining + ((a, b, often),) for often in range(1, free + 1)])
    return more


def all_joinings(left, right):
    """The list of all joinings, ascending."""
    check_two_halves(left, right)
    births, deaths = births_of(left), deaths_behind(left, right)
    found = [()]
    for a in sorted(births):
        for b in sorted(deaths):
            found = joinings_with(found, births, deaths, a, b)
            if len(found) > MOST_JOININGS:
                raise TooMany(MOST_JOININGS)
    return sorted(found)
