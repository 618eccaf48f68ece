"""Consoles: desks kept by names, and answers to lines."""

from staybars.deeds import deed_of, is_deed_word, is_name
from staybars.desk import Desk
from staybars.errors import BadText, NoDesk, StayError
from staybars.logs import write_log
from staybars.netlines import is_net_way
from staybars.nettables import is_net_kind
from staybars.texts import number_of, read_net, write_net

BAD_WORDS = "? BadWords"
NO_DESK = "? NoDesk"
DONE = "ok"
NOTHING = "-"
# What stands behind each word, but for those of deeds, "open" and "try".
SHAPES = {
    "undo": ("name",), "redo": ("name",), "mark": ("name", "name"), "back": ("name", "name"),
    "fork": ("name", "name"), "close": ("name",), "heap": ("name", "kind", "way"),
    "change": ("name", "kind", "way"), "since": ("name", "name", "kind", "way"),
    "window": ("name", "number", "number", "kind", "way"), "net": ("name",), "log": ("name",), "names": (),
}


def value_of(shape, word):
    """What a word of this shape tells, or None if it is of another one."""
    if shape == "number":
        return number_of(word)
    if shape == "name":
        right = is_name(word)
    elif shape == "kind":
        right = is_net_kind(word)
    else:
        right = is_net_way(word)
    return word if right else None


def values_of(shapes, words):
    """The list of what words of these shapes tell, or None if they are others."""
    if len(words) != len(shapes):
        return None
    values = [value_of(shape, word) for shape, word in zip(shapes, words)]
    if None in values:
        return None
    return values


def net_of(words):
    """The net whose text is made of some words, or None if it is of none."""
    try:
        return read_net(" ".join(words))
    except BadText:
        return None


def values_behind(word, words):
    """The list of what the words behind the first word of a line tell, or None if they are not right."""
    if word == "open":
        values, last = values_of(("name",), words[:1]), net_of(words[1:])
    elif word == "try":
        values, last = values_of(("name", "kind", "way"), words[:3]), deed_of(words[3:])
    elif is_deed_word(word):
        values, last = values_of(("name",), words[:1]), deed_of([word] + words[1:])
    elif word in SHAPES:
        return values_of(SHAPES[word], words)
    else:
        return None
    if values is None or last is None:
        return None
    return values + [last]


def text_of_heap(heap):
    """The text of a heap in an answer."""
    if heap == ():
        return NOTHING
    return " ".join([str(a) + "-" + str(b) + "*" + str(often) for a, b, often in heap])


def text_of_turnover(turned):
    """The text of what went and what came in an answer."""
    gone, come = turned
    return "gone " + text_of_heap(gone) + " come " + text_of_heap(come)


def text_of_names(names):
    """The text of some names in an answer."""
    if names == []:
        return NOTHING
    return " ".join(names)


def text_of_done(number):
    """The answer for what a desk's method returned."""
    if number is None:
        return DONE
    return str(number)


def told_of(desk, word, values):
    """The answer to a line that asks a desk, or None for another line."""
    if word == "heap":
        return text_of_heap(desk.heap(values[0], way=values[1]))
    if word == "change":
        return text_of_turnover(desk.change(values[0], way=values[1]))
    if word == "since":
        return text_of_turnover(desk.since(values[0], values[1], way=values[2]))
    if word == "try":
        return text_of_turnover(desk.tried(values[2], values[0], way=values[1]))
    if word == "window":
        return text_of_heap(desk.window(values[0], values[1], values[2], way=values[3]))
    if word == "net":
        return write_net(desk.net)
    if word == "log":
        return write_log(desk)
    return None


def done_on(desk, word, values):
    """Do with a desk what a line says; what the desk's method returns."""
    if word == "undo":
        return desk.undo()
    if word == "redo":
        return desk.redo()
    if word == "mark":
        return desk.mark(values[0])
    if word == "back":
        return desk.back(values[0])
    return desk.do(values[0])


class Console:
    """Desks kept by names."""

    def __init__(self):
        self._desks = {}

    def answer(self, line):
        """The answer to a line, any value."""
        if not isinstance(line, str):
            return BAD_WORDS
        words = line.split(" ")
        values = values_behind(words[0], words[1:])
        if values is None:
            return BAD_WORDS
        if words[0] == "names":
            return text_of_names(self.names())
        if words[0] != "open" and not self.is_open(values[0]):
            return NO_DESK
        try:
            return self._answer_to(words[0], values[0], values[1:])
        except StayError as error:
            return "? " + type(error).__name__

    def _answer_to(self, word, name, values):
        """The answer to a right line whose first name is kept, but for "open"."""
        if word == "open":
            self._desks[name] = Desk(values[0])
            return DONE
        if word == "fork":
            self._desks[values[0]] = self._desks[name].fork()
            return DONE
        if word == "close":
            del self._desks[name]
            return DONE
        told = told_of(self._desks[name], word, values)
        if told is None:
            told = text_of_done(done_on(self._desks[name], word, values))
        return told

    def names(self):
        """The ascending list of the names by which desks are kept."""
        return sorted(self._desks)

    def is_open(self, value):
        """Whether any value is a name by which a desk is kept."""
        return is_name(value) and value in self._desks

    def desk(self, name):
        """The desk that is kept by a name, itself."""
        if not self.is_open(name):
            raise NoDesk(name)
        return self._desks[name]
