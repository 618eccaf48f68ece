"""Texts of lines, heaps and nets, written and read."""

from staybars.bars import check_places, check_places_heap, is_heap
from staybars.entries import is_entry, is_width
from staybars.errors import BadText
from staybars.lines import along, check_line, is_line, is_sign
from staybars.nets import check_net, is_net

KINDS = ("line", "heap", "net")
DIGITS = "0123456789"
MOST_DIGITS = 9


def piece_of(word, numbers):
    """The piece of a word and some numbers."""
    return " ".join([word] + [str(number) for number in numbers])


def word_of_entry(entry):
    """The text of an entry."""
    if entry == ():
        return "-"
    return "".join([str(number) for number in entry])


def text_of(pieces):
    """The text of some pieces."""
    return "; ".join(pieces)


def write_line(line):
    """The text of a line."""
    check_line(line)
    p, widths, maps = line
    pieces = [piece_of("line", (p, widths[0]))]
    for width, (sign, table) in zip(widths[1:], maps):
        words = [sign, str(width)] + [word_of_entry(row) for row in table]
        pieces.append(" ".join(words))
    return text_of(pieces)


def write_heap(places, heap):
    """The text of a heap of so many places."""
    check_places_heap(places, heap)
    return text_of(["heap"] + [" ".join([str(number) for number in pile]) for pile in heap])


def write_net(net):
    """The text of a net."""
    check_net(net)
    last, points, ties = net
    pieces = [piece_of("net", (last,))]
    pieces.extend([piece_of("point", life) for life in points])
    pieces.extend([piece_of("tie", tie) for tie in ties])
    return text_of(pieces)


def pieces_of(text):
    """The pieces of a text; raise BadText with 0 for any value that is no string."""
    if not isinstance(text, str):
        raise BadText(0)
    return text.split("; ")


def number_of(word):
    """The number that a word tells, or None if it tells none."""
    if not 1 <= len(word) <= MOST_DIGITS or not all([sign in DIGITS for sign in word]):
        return None
    if len(word) > 1 and word[0] == "0":
        return None
    return int(word)


def numbers_of(many, words):
    """The tuple of the numbers of so many words, or None if these are others."""
    numbers = tuple([number_of(word) for word in words])
    if len(words) != many or None in numbers:
        return None
    return numbers


def numbers_behind(first, many, words):
    """The tuple of the numbers of so many words behind the first one, or None if these are others."""
    if words[0] != first:
        return None
    return numbers_of(many, words[1:])


def entry_of(p, width, word):
    """The entry of a room of this width that a word tells, or None if it tells none."""
    if width == 0 and word == "-":
        return ()
    # A sign that is no digit is found at -1, so it is no number of an entry.
    entry = tuple([DIGITS.find(sign) for sign in word])
    if width == 0 or not is_entry(p, width, entry):
        return None
    return entry


def begun_line(piece):
    """The line that a first piece tells, or None if it tells none."""
    numbers = numbers_behind("line", 2, piece.split(" "))
    if numbers is None or not is_line((numbers[0], numbers[1:], ())):
        return None
    return numbers[0], numbers[1:], ()


def grown_line(line, piece):
    """The line with the place that a further piece tells, or None if it tells none."""
    words = piece.split(" ")
    if len(words) < 2 or not is_sign(words[0]) or not is_width(number_of(words[1])):
        return None
    p, widths, maps = line
    sign, width = words[0], number_of(words[1])
    _, there = along(sign, widths[-1], width)
    table = tuple([entry_of(p, there, word) for word in words[2:]])
    grown = (p, widths + (width,), maps + ((sign, table),))
    if not is_line(grown):
        return None
    return grown


def read_line(text):
    """The line of a text."""
    line = None
    for number, piece in enumerate(pieces_of(text)):
        line = begun_line(piece) if number == 0 else grown_line(line, piece)
        if line is None:
            raise BadText(number)
    return line


def begun_heap(piece):
    """The heap that a first piece tells, or None if it tells none."""
    if piece != "heap":
        return None
    return ()


def grown_heap(places, heap, piece):
    """The heap with the stretch that a further piece tells, or None if it tells none."""
    pile = numbers_of(3, piece.split(" "))
    if pile is None or not is_heap(places, heap + (pile,)):
        return None
    return heap + (pile,)


def read_heap(places, text):
    """The heap of so many places of a text."""
    check_places(places)
    heap = None
    for number, piece in enumerate(pieces_of(text)):
        heap = begun_heap(piece) if number == 0 else grown_heap(places, heap, piece)
        if heap is None:
            raise BadText(number)
    return heap


def begun_net(piece):
    """The net that a first piece tells, or None if it tells none."""
    numbers = numbers_behind("net", 1, piece.split(" "))
    if numbers is None or not is_net((numbers[0], (), ())):
        return None
    return numbers[0], (), ()


def grown_net(net, piece):
    """The net with the point or the tie that a further piece tells, or None if it tells none."""
    last, points, ties = net
    words = piece.split(" ")
    point = numbers_behind("point", 2, words)
    tie = numbers_behind("tie", 4, words)
    if point is not None and ties == ():
        grown = (last, points + (point,), ())
    elif tie is not None:
        grown = (last, points, ties + (tie,))
    else:
        return None
    if not is_net(grown):
        return None
    return grown


def read_net(text):
    """The net of a text."""
    net = None
    for number, piece in enumerate(pieces_of(text)):
        net = begun_net(piece) if number == 0 else grown_net(net, piece)
        if net is None:
            raise BadText(number)
    return net


def kind_of_text(text):
    """The word with which any value begins as a text, or None if it begins with none."""
    if not isinstance(text, str):
        return None
    for word in KINDS:
        if text == word or text.startswith(word + " ") or text.startswith(word + "; "):
            return word
    return None
