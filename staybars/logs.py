"""Logs: texts of a desk's first net and of its standing deeds, written and read."""

from staybars.deeds import deed_of, text_of_deed
from staybars.desk import Desk
from staybars.errors import BadLog, BadText, StayError
from staybars.kinds import is_like
from staybars.texts import read_net, write_net


def write_log(desk):
    """The log of a desk."""
    rows = [write_net(desk.first)] + [text_of_deed(deed) for deed in desk.deeds()]
    return "\n".join(rows)


def begun_desk(row):
    """A desk with the net that a first row tells."""
    try:
        return Desk(read_net(row))
    except BadText:
        raise BadLog(0) from None


def do_row(desk, number, row):
    """Do the deed that a row of a log tells."""
    try:
        # A row that tells no deed tells None, which no desk does.
        desk.do(deed_of(row.split(" ")))
    except StayError:
        raise BadLog(number) from None


def read_log(text):
    """A desk with this log."""
    if not isinstance(text, str):
        raise BadLog(0)
    rows = text.split("\n")
    desk = begun_desk(rows[0])
    for number in range(1, len(rows)):
        do_row(desk, number, rows[number])
    return desk


def is_log(value):
    """Whether any value is a log."""
    try:
        read_log(value)
    except BadLog:
        return False
    return True


def account_of(text, kind, way):
    """The list of the heaps of a log's desk at first and behind each deed."""
    desk = read_log(text)
    return desk.story(kind, way=way)


def is_account(text, kind, way, value):
    """Whether any value is the list of the heaps of a log's desk."""
    return is_like(account_of(text, kind, way), value)


def common_rows(one, other):
    """How many deeds two logs both begin with, None if their first nets are unlike."""
    first, second = read_log(one), read_log(other)
    if first.first != second.first:
        return None
    many = 0
    for deed, like in zip(first.deeds(), second.deeds()):
        if deed != like:
            return many
        many += 1
    return many
