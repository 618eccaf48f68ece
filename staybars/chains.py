"""Chains of rooms: parts, each within the next one."""

from staybars.entries import check_entry, check_room, is_entry
from staybars.errors import BadChain
from staybars.parts import is_part
from staybars.spans import base_of, fetched_base, is_base_within, is_held
from staybars.spans import led_base, met_base, rest_rows, summed_base
from staybars.sums import same_rows
from staybars.tables import check_table_to


def is_chain(p, width, value):
    """Whether any value is a chain of a room of this width."""
    check_room(p, width)
    if not isinstance(value, tuple) or not all([is_part(p, width, piece) for piece in value]):
        return False
    beneath = ()
    for piece in value:
        if piece == beneath or not is_base_within(p, beneath, piece):
            return False
        beneath = piece
    return beneath == same_rows(width)


def check_chain(p, width, value):
    """Raise BadChain for any value that is no chain of the room."""
    if not is_chain(p, width, value):
        raise BadChain(value)


def check_two_chains(p, width, one, other):
    """Raise BadPrime and BadWidth for the room, then BadChain for the one, for the other."""
    check_room(p, width)
    check_chain(p, width, one)
    check_chain(p, width, other)


def step_of(p, width, chain, entry):
    """The number of the first part that holds an entry; None for nought."""
    check_room(p, width)
    check_chain(p, width, chain)
    check_entry(p, width, entry)
    if not any(entry):
        return None
    number = 0
    while not is_held(p, chain[number], entry):
        number += 1
    return number


def meet_widths(p, width, one, other):
    """The widths of the meets of each part of the one chain with each of the other."""
    return [[len(met_base(p, width, piece, part)) for part in other] for piece in one]


def width_at(widths, i, j):
    """The width of the meet of part i and part j, 0 where there is no part."""
    if i < 0 or j < 0:
        return 0
    return widths[i][j]


def share_at(widths, i, j):
    """How much wider the meet of part i and part j is than what the parts ahead give it."""
    nearer = width_at(widths, i - 1, j) + width_at(widths, i, j - 1)
    return width_at(widths, i, j) - nearer + width_at(widths, i - 1, j - 1)


def meets_of(p, width, one, other):
    """For each part of the one chain the list of the widths of its meets with the other's."""
    check_two_chains(p, width, one, other)
    return meet_widths(p, width, one, other)


def shares_of(p, width, one, other):
    """For each step of the one chain the list of what it shares with each step of the other."""
    check_two_chains(p, width, one, other)
    widths = meet_widths(p, width, one, other)
    return [[share_at(widths, i, j) for j in range(len(other))] for i in range(len(one))]


def part_ahead(chain, number):
    """The part ahead of part number of a chain, () for the first one."""
    if number == 0:
        return ()
    return chain[number - 1]


def shared_rows(p, width, one, i, other, j):
    """Entries that make up the meet of parts i and j beyond its meets with the parts ahead."""
    left = met_base(p, width, part_ahead(one, i), other[j])
    right = met_base(p, width, one[i], part_ahead(other, j))
    return rest_rows(p, summed_base(p, left, right), met_base(p, width, one[i], other[j]))


def one_base(p, width, one, other):
    """Any tuple of entries of which each part of both chains holds what makes it up."""
    check_two_chains(p, width, one, other)
    rows = []
    for i in range(len(one)):
        for j in range(len(other)):
            rows.extend(shared_rows(p, width, one, i, other, j))
    return tuple(rows)


def is_made_up(p, piece, entries):
    """Whether a part holds just as many of some entries as it is wide and is told by these."""
    held = [entry for entry in entries if is_held(p, piece, entry)]
    return len(held) == len(piece) and base_of(p, held) == piece


def is_one_base(p, width, one, other, value):
    """Whether any value is such a tuple of entries as one_base tells."""
    check_two_chains(p, width, one, other)
    if not isinstance(value, tuple) or len(value) != width:
        return False
    if not all([is_entry(p, width, entry) for entry in value]):
        return False
    return all([is_made_up(p, piece, value) for piece in one + other])


def kept_parts(parts):
    """The parts without () and without each that is equal to the last one that was kept."""
    kept = []
    last = ()
    for piece in parts:
        if piece not in ((), last):
            kept.append(piece)
            last = piece
    return tuple(kept)


def led_chain(p, b, table, chain):
    """The chain of the parts to which a table leads a chain's parts, and all of the room."""
    check_table_to(p, b, table)
    check_chain(p, len(table), chain)
    led = [led_base(p, b, table, piece) for piece in chain]
    return kept_parts(led + [same_rows(b)])


def fetched_chain(p, b, table, chain):
    """The chain of what a table leads to nought and of what it leads into a chain's parts."""
    check_table_to(p, b, table)
    check_chain(p, b, chain)
    return kept_parts([fetched_base(p, b, table, piece) for piece in ((),) + chain])
