"""Tables from each room of a line to that of a fellow, for lines that are known to be right."""

from staybars.errors import BadPair
from staybars.kinds import is_tuple_long
from staybars.lines import along, check_two_lines, is_base_table, signs_in
from staybars.sums import led_behind
from staybars.tables import is_table


def are_fellows(one, other):
    """Whether two lines have the same p and the same signs."""
    return one[0] == other[0] and signs_in(one) == signs_in(other)


def check_pair(one, other):
    """Raise BadPair for two lines that are no fellows."""
    if not are_fellows(one, other):
        raise BadPair((one, other))


def check_fellows(one, other):
    """Raise BadLine for the one, for the other, then BadPair if they are no fellows."""
    check_two_lines(one, other)
    check_pair(one, other)


def are_tables_between(one, other, value):
    """Whether any value is a tuple of tables, one for each place, from one's room to other's."""
    if not is_tuple_long(value, len(one[1])):
        return False
    return all([is_table(one[0], one[1][k], other[1][k], table) for k, table in enumerate(value)])


def goes_along_at(one, other, tables, k):
    """Whether tables go along with the maps between the places k and k + 1."""
    sign, first = one[2][k]
    second = other[2][k][1]
    here, there = along(sign, k, k + 1)
    p, width = one[0], other[1][there]
    return led_behind(p, width, first, tables[there]) == led_behind(p, width, tables[here], second)


def goes_along(one, other, value):
    """Whether any value is a crossing from a line to a fellow."""
    if not are_tables_between(one, other, value):
        return False
    return all([goes_along_at(one, other, value, k) for k in range(len(one[2]))])


def have_backs(one, other, tables):
    """Whether each of some tables, from one's rooms to other's, has a back."""
    # A table from a room 0 wide is (), to whatever width it leads: only the rooms tell where that is.
    if one[1] != other[1]:
        return False
    return all([is_base_table(one[0], width, table) for width, table in zip(one[1], tables)])
