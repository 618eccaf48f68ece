"""The interface of grown nets, counts, windows, desks, logs and consoles, as tests/interface.py tells the stages ahead.

A method is told like a function: at each call it is called on an object made anew.
"""

import importlib

from staybars.console import Console
from staybars.desk import Desk
from staybars.windows import Window
from tests.interface import L, NO_LINE, NO_NETS, NO_WIDTH, ONE_DAY, PRIME, TRIP, Case
from tests.interface_crossings import NO_JOINING, ONE_PLACE, SIGN, TWO_HALVES, UP
from tests.interface_forth import WAY


class Like:
    """A value of an error that is equal to this one."""

    def __init__(self, value):
        self.value = value


class MethodCase(Case):
    """A method, with a maker of objects; the argument way is passed by its name alone.

    Where no arguments are right on the objects that are made, base tells those among which wrong ones are put.
    """

    def __init__(self, module, owner, make, name, names, good, steps=(), base=None):
        Case.__init__(self, module, name, names, good, steps)
        self.owner = owner
        self.make = make
        self.base = base
        self.by_name = tuple(named for named in self.names if named == "way")

    def defined(self):
        """The function in the body of the class."""
        return vars(getattr(importlib.import_module("staybars." + self.module), self.owner))[self.name]

    def function(self):
        def call(*args, **named):
            held = {**dict(zip(self.names, args)), **named}
            places = [name for name in self.names if name not in self.by_name]
            method = getattr(self.make(), self.name)
            if named:
                return method(**named)
            return method(*[held[name] for name in places], **{name: held[name] for name in self.by_name})
        return call


GROW = (2, ((0, 2), (0, 2), (1, 2)), ((0, 1, 1, 2), (1, 2, 2, 2), (0, 1, 2, 2)))
LATE = (2, ((0, 2), (1, 2), (1, 2)), ((0, 1, 2, 2), (1, 2, 2, 2), (0, 1, 2, 2)))
NETS = ("BadNet", "net", NO_NETS)
NO_GROWN = [TRIP, (2, ((0, 1),), ()), (2, ((0, 2), (0, 2)), ((0, 1, 1, 1),)), (1, ((0, 1), (0, 0)), ())]
GROWN = ("NotGrowing", "net", NO_GROWN)
NO_KIND = [None, True, 0, "", "group", "Rings", "rings ", "unions", ["groups"], ("rings",), {}, 10 ** 40, b"rings", "x" * 50000]
WHAT = ("BadKind", "what", NO_KIND)
TWO_GROWN = [
    NETS, ("BadNet", "other", NO_NETS), GROWN, ("NotGrowing", "other", NO_GROWN),
    ("BadPair", "net other", [
        (GROW, (3, ((0, 3), (0, 3), (1, 3)), ((0, 1, 1, 3), (1, 2, 2, 3), (0, 1, 2, 3)))), (GROW, (2, GROW[1], GROW[2][:2])), (GROW, (2, GROW[1][:2], ())),
        (GROW, (2, GROW[1], GROW[2][1:] + GROW[2][:1])), ((2, GROW[1] + ((0, 2),), GROW[2]), GROW), (GROW, (2, (), ())),
    ]),
]
NO_SHIFT = [None, True, False, -1, 0, 21, 10 ** 40, "1", (1,), [1], {1: 1}, ""]
NO_DAY = [None, True, False, -1, 3, 10 ** 30, "0", (0,), [0]]
STAGE_26 = [
    Case("grown", "days_line", "net what p", [(GROW, "groups", 2), (GROW, "rings", 7), ((0, (), ()), "rings", 3)], [NETS, GROWN, WHAT, PRIME]),
    Case("grown", "name_on", "net day point", [(GROW, 0, 0), (GROW, 0, 2), (GROW, 2, 2)], [
        NETS, GROWN, ("BadDay", "day", NO_DAY), ("BadPoint", "point", [None, True, False, -1, 3, "0", (0,), [], 10 ** 30]),
    ]),
    Case("grown", "elder_names", "net", [(GROW,), (LATE,), (ONE_DAY,), ((0, (), ()),)], [NETS, GROWN]),
    Case("grown", "shift_of", "net other", [(GROW, LATE), (GROW, GROW), (ONE_DAY, ONE_DAY)], TWO_GROWN),
    Case("grown", "tables_of_nets", "net other e what p", [(GROW, LATE, 1, "groups", 2), (LATE, GROW, 20, "rings", 5)], TWO_GROWN + [
        ("BadShift", "e", NO_SHIFT), WHAT, PRIME,
    ]),
]

SIGNS = ("BadSigns", "signs", [
    None, True, 0, ">", "><", [">"], ("=",), (None,), (">>",), (("<",),), (">",) * 17, {}, (True,), ("",), ([],), 10 ** 40,
])
NO_HEAP_OF_TWO = [
    None, True, 0, "", [], [(0, 1, 1)], {}, ((0, 2, 1),), ((0, 1, 0),), ((0, 1, True),), ((0, 1, 9),), ((1, 1, 1), (0, 1, 1)), ((0, 1),), (None,),
]
PLAIN = [PRIME, SIGNS, ("BadHeap", "heap", NO_HEAP_OF_TWO)]
NO_WIDTHS = [
    None, True, 0, "11", (), [], [1, 1], (1, 9), (-1,), (True, 1), (1, False), (1, None), ("1",), (1,) * 18, {1: 1}, ((1,),), 10 ** 40, (10 ** 40,),
]
STAGE_27 = [
    Case("counts", "count_squares", "p width", [(2, 2), (7, 8), (3, 0)], [PRIME, ("BadWidth", "width", NO_WIDTH)]),
    Case("counts", "count_parts", "p width few", [(2, 3, 1), (2, 2, 3), (7, 8, 4)], [PRIME, ("BadWidth", "width", NO_WIDTH), ("BadWidth", "few", NO_WIDTH)]),
    Case("counts", "group_of", "p heap signs", [(2, ((0, 0, 1), (0, 1, 1)), (">",)), (3, (), ("<",))], PLAIN),
    Case("counts", "lines_with", "p heap signs", [(2, ((0, 0, 1), (0, 1, 1)), (">",)), (3, (), ("<",))], PLAIN),
    Case("counts", "heaps_with", "widths", [((1, 1),), ((0,),), ((3, 0, 2),)], [
        ("BadWidths", "widths", NO_WIDTHS), ("TooMany", "widths", [(6, 6, 0, 1, 4, 3, 0, 1, 4, 4), (8,) * 17], lambda named: 1000),
    ]),
    Case("counts", "maps_with", "left right sign value", [(UP, ONE_PLACE, ">", ((0, 2, 1),)), (UP, ONE_PLACE, "<", ())], TWO_HALVES + [
        SIGN, ("BadJoining", "value", NO_JOINING),
    ]),
]


def window():
    """A window on L that has a place more on its left: its places are -1 to 2."""
    made = Window(L)
    made.push_left(">", 1, ((2,),))
    made.mark_now()
    return made


def long_window():
    return Window((5, (1,) + (0,) * 15 + (1,), ((">", ((),)),) + ((">", ()),) * 14 + (("<", ((),)),)))


def short_window():
    return Window((5, (1,), ()))


WIDTH = ("BadWidth", "width", NO_WIDTH)
NO_TABLE = [None, True, 0, "ab", [], (), [(1, 2)], ((1,),), ((1, 5),), ((1, True),), ([1, 2],), ((1, 2), (1, 2)), {}, (None,), ((1, -1),), 10 ** 40]
TABLE = ("BadTable", "table", NO_TABLE)
TOO_LONG = ("TooLong", "sign width table", [(">", 2, ((1, 2),)), ("<", 0, ())], lambda named: 17)
TOO_LONG_LEFT = ("TooLong", "sign width table", [("<", 2, ((1, 2),)), (">", 0, ())], lambda named: 17)
TOO_SHORT = ("TooShort", "", [()], lambda named: 1)


def window_case(make, name, names="", good=((),), steps=(), base=None):
    return MethodCase("windows", "Window", make, name, names, list(good), steps, base)


STAGE_28 = [
    window_case(window, "first_place"), window_case(window, "line_now"), window_case(window, "heap_now"), window_case(window, "lives_now"),
    window_case(window, "push_right", "sign width table", [(">", 2, ((1, 2),)), ("<", 0, ())], [SIGN, WIDTH, TABLE]),
    window_case(window, "push_left", "sign width table", [("<", 2, ((1, 2),)), (">", 0, ())], [SIGN, WIDTH, TABLE]),
    window_case(long_window, "push_right", "sign width table", [], [SIGN, WIDTH, TABLE, TOO_LONG], (">", 2, ((1, 2),))),
    window_case(long_window, "push_left", "sign width table", [], [SIGN, WIDTH, TABLE, TOO_LONG_LEFT], ("<", 2, ((1, 2),))),
    window_case(window, "pop_right"), window_case(window, "pop_left"),
    window_case(short_window, "pop_right", "", [], [TOO_SHORT]), window_case(short_window, "pop_left", "", [], [TOO_SHORT]),
    window_case(window, "put_map", "k sign table", [(0, ">", ((1, 2),)), (-1, "<", ((3,),)), (1, ">", ((1,), (2,)))], [
        ("BadPlace", "k", [None, True, False, -2, 2, 3, 10 ** 40, "0", (0,), [0], {}, ""]), SIGN, TABLE,
    ]),
    window_case(window, "mark_now"),
    window_case(window, "go_back", "number", [(0,)], [("BadMark", "number", [None, True, False, -1, 1, 10 ** 40, "0", (0,), [0], {}, ""])]),
]


def desk():
    """A desk with two points, a tie and a mark; a deed is undone."""
    made = Desk((2, ((0, 2),), ()))
    made.come(0, 1)
    made.mark("old")
    made.bind(0, 1, 0, 1)
    made.come(2, 2)
    made.turn()
    made.undo()
    return made


def full_desk():
    made = Desk((1, ((0, 1), (0, 1)), ((0, 1, 0, 0),)))
    for _ in range(60):
        made.turn()
    return made


def bare_desk():
    return Desk((1, ((0, 1), (0, 1)), ((0, 1, 0, 0),)))


NET = (2, ((0, 2), (0, 1), (2, 2)), ((0, 1, 0, 1),))
NO_POINT = [None, True, False, -1, 3, "0", (0,), [], {}, 10 ** 40]
NO_TIE = [None, True, False, -1, 1, "0", (0,), [], {}, 10 ** 40]
NO_LIFE = [(None, 1), (0, None), (True, 1), (0, True), (1, 0), (-1, 1), (0, 3), (0, 10 ** 40), ("0", 1), ([0], 1), (0, (1,)), ({}, 0), (10 ** 40, 10 ** 40)]
POINT = ("BadPoint", "point", NO_POINT)
TIE = ("BadTie", "tie", NO_TIE)
NO_DEED = [
    None, True, 0, "turn", (), [], ["turn"], ("turn", 0), ("go",), ("go", -1), ("go", 10 ** 9), ("go", True), ("go", None), ("go", 0, 0), ("come", 0), {},
    ("come", 0, 0, 0), ("Go", 0), (None,), (["turn"],), ("undo",), ("set_last", 1), ("last", 1.5), ("go", "0"), ("bind", 0, 1, 0), (("turn",),), 10 ** 40,
    ("life", 0, 1), ("days", 0, 1), ("cut",), ("cut", 10 ** 40), ("mark", "a"), ("", 0),
]
KIND = ("BadKind", "kind", NO_KIND)
NAME = ("BadMark", "name", [None, True, 0, "", "A", "abcdefghi", "a b", "a1", "old ", ["old"], ("old",), {}, "new", "x" * 50000, 10 ** 40, b"old"])
FULL = ("TooMany", "", [()], lambda named: 60)


def desk_case(name, names="", good=((),), steps=(), make=desk, base=None):
    return MethodCase("desk", "Desk", make, name, names, list(good), steps, base)


def net_step(names, wrong, net_with):
    """BadNet, with what would come of the net with these arguments."""
    return ("BadNet", names, wrong, lambda named: Like(net_with(named)))


def with_tie(named):
    return NET[0], NET[1], NET[2] + ((named["one"], named["other"], named["first"], named["end"]),)


NO_TIES = [(0, 1) + life for life in NO_LIFE] + [(1, 0, 0, 1), (0, 0, 0, 1), (0, 3, 0, 0), (None, 1, 0, 0), (0, [1], 0, 0), (True, 2, 2, 2), (0, 2, 1, 2), (0, 1, 0, 2)]
STAGE_29 = [
    Case("desk", "is_deed", "value", [(("turn",),), (("go", 999999999),), (None,)]),
    desk_case("come", "first end", [(0, 2), (1, 1)], [
        net_step("first end", NO_LIFE, lambda named: (2, NET[1] + ((named["first"], named["end"]),), NET[2])),
    ]),
    desk_case("bind", "one other first end", [(0, 1, 1, 1), (0, 2, 2, 2)], [net_step("one other first end", NO_TIES, with_tie)]),
    desk_case("life", "point first end", [(2, 0, 1), (1, 0, 2)], [POINT, net_step("first end", NO_LIFE, lambda named: (
        2, tuple((named["first"], named["end"]) if k == named["point"] else life for k, life in enumerate(NET[1])), NET[2]
    ))]),
    desk_case("life", "point first end", [(1, 0, 2)], [
        POINT, net_step("first end", [(0, 0), (1, 1), (2, 2)], lambda named: (2, (NET[1][0], (named["first"], named["end"]), NET[1][2]), NET[2])),
    ]),
    desk_case("days", "tie first end", [(0, 1, 1), (0, 0, 0)], [
        TIE, net_step("first end", NO_LIFE + [(0, 2)], lambda named: (2, NET[1], ((0, 1, named["first"], named["end"]),))),
    ]),
    desk_case("set_last", "day", [(2,), (8,)], [
        net_step("day", [None, True, False, 0, 1, 9, -1, 10 ** 40, "2", [2], (2,), {}], lambda named: (named["day"],) + NET[1:]),
    ]),
    desk_case("go", "point", [(2,)], [POINT, ("PointHeld", "point", [0, 1], lambda named: 0)]),
    desk_case("cut", "tie", [(0,)], [TIE]),
    desk_case("turn"),
    desk_case("come", "first end", [], [("TooMany", "first end", [(0, 1)], lambda named: 60)], full_desk),
    desk_case("turn", "", [], [FULL], full_desk),
    desk_case("do", "deed", [(("turn",),), (("come", 0, 1),), (("cut", 0),), (("last", 8),)], [("BadDeed", "deed", NO_DEED)]),
    desk_case("do", "deed", [], [
        ("BadDeed", "deed", NO_DEED), ("BadPoint", "deed", [("go", 2), ("life", 9, 0, 0)], lambda named: named["deed"][1]),
        ("PointHeld", "deed", [("go", 0)], lambda named: 0), ("BadTie", "deed", [("cut", 1), ("days", 2, 0, 0)], lambda named: named["deed"][1]),
        ("TooMany", "deed", [("turn",), ("come", 0, 0), ("cut", 0)], lambda named: 60),
    ], full_desk),
    desk_case("do_all", "deeds", [([("turn",), ("come", 0, 1)],), ([],)], [
        ("NotDone", "deeds", [[odd, ("turn",)] for odd in NO_DEED] + [[("go", 0)]], lambda named: 0),
        ("NotDone", "deeds", [[("turn",), odd] for odd in NO_DEED] + [[("cut", 0), ("cut", 0)]], lambda named: 1),
    ]),
    desk_case("deeds"), desk_case("undo"), desk_case("redo"), desk_case("deeds", make=bare_desk),
    desk_case("undo", "", [], [("NoDeed", "", [()], lambda named: Like("undo"))], bare_desk),
    desk_case("redo", "", [], [("NoDeed", "", [()], lambda named: Like("redo"))], bare_desk),
    desk_case("mark", "name", [("old",), ("a",), ("abcdefgh",)], [(NAME[0], NAME[1], [name for name in NAME[2] if name != "new"])]),
    desk_case("back", "name", [("old",)], [NAME]),
    desk_case("is_marked", "value", [("old",), ("new",), (None,)]),
    desk_case("heap", "kind way", [("groups", "unions"), ("rings", "meets")], [KIND, WAY]),
    desk_case("change", "kind way", [("groups", "unions"), ("rings", "meets")], [KIND, WAY]),
    desk_case("change", "kind way", [], [
        KIND, WAY, ("NoDeed", "kind way", [("groups", "meets")], lambda named: Like("change")),
    ], bare_desk, ("groups", "unions")),
    desk_case("since", "name kind way", [("old", "groups", "unions")], [NAME, KIND, WAY]),
    desk_case("tried", "deed kind way", [(("turn",), "groups", "unions"), (("cut", 0), "rings", "meets")], [
        ("BadDeed", "deed", NO_DEED), ("PointHeld", "deed", [("go", 1)], lambda named: 0),
        ("BadTie", "deed", [("cut", 1), ("days", 9, 0, 0)], lambda named: named["deed"][1]), KIND, WAY,
    ]),
    desk_case("tried", "deed kind way", [], [
        ("BadDeed", "deed", NO_DEED), ("TooMany", "deed kind way", [(("turn",), None, None), (("last", 8), "groups", "unions")], lambda named: 60),
    ], full_desk),
    desk_case("window", "first end kind way", [(0, 1, "groups", "unions"), (2, 2, "rings", "meets")], [
        ("BadDays", "first end", [
            (None, 1), (0, None), (True, 1), (0, True), (-1, 1), (2, 1), (0, 3), (3, 3), ("0", "1"), ([], {}), (0, 10 ** 40),
        ]), KIND, WAY,
    ]),
    desk_case("story", "kind way", [("groups", "unions"), ("rings", "meets")], [KIND, WAY]),
]

LOG = "net 1\ncome 0 1\ncome 0 1\nbind 0 1 0 0"
WRONG_LOGS = {
    "": 0, "net": 0, "net 9": 0, "\n": 0, " net 1": 0, "net 1\n": 1, "net 1\n\nturn": 1, "net 1\nturn ": 1, "net 1\nturn\ngo 0": 2, LOG + "\n": 4,
    LOG + "\ncome 0 2": 4, LOG + "\ngo 0": 4, LOG.replace("come 0 1", "come 00 1", 1): 1, LOG.replace("bind", "Bind"): 3, LOG + "\nundo": 4,
    "line 2 0": 0, "net 1\ncome  0 1": 1, "net 1" + "\nturn" * 61: 61, "net 1\r\nturn": 0, "x" * 50000: 0,
}
NO_STRINGS = [None, True, 0, 10 ** 40, b"net 1", [LOG], (LOG,), {LOG: 1}, [], {}, ()]


def log_step(name):
    """BadLog with the number that belongs to a text; 0 for what is no string."""
    def told(named):
        return WRONG_LOGS[named[name]] if isinstance(named[name], str) else 0
    return ("BadLog", name, NO_STRINGS + list(WRONG_LOGS), told)


STAGE_30 = [
    # What is told of desks themselves cannot be held against one another here.
    Case("logs", "write_log", "desk", []),
    Case("logs", "read_log", "text", [], [log_step("text")]),
    Case("logs", "is_log", "value", [(LOG,), ("",), (None,)]),
    Case("logs", "account_of", "text kind way", [(LOG, "groups", "meets"), ("net 0", "rings", "unions")], [log_step("text"), KIND, WAY]),
    Case("logs", "is_account", "text kind way value", [(LOG, "rings", "unions", [(), (), (), ()]), (LOG, "groups", "meets", None)], [log_step("text"), KIND, WAY]),
    Case("logs", "common_rows", "one other", [(LOG, "net 1\ncome 0 1\nturn"), (LOG, "net 2")], [log_step("one"), log_step("other")]),
]


def console():
    made = Console()
    made.answer("open a net 1; point 0 1")
    made.answer("open b net 2")
    made.answer("come a 0 0")
    return made


def console_case(name, names="", good=((),), steps=()):
    return MethodCase("console", "Console", console, name, names, list(good), steps)


STAGE_31 = [
    console_case("answer", "line", [("come a 0 1",), ("names",), ("net b",), (None,), ("go c 1",), ("fish",)]),
    console_case("names"),
    console_case("is_open", "value", [("a",), ("c",), (None,)]),
    console_case("desk", "name", [], [("NoDesk", "name", [None, True, 0, "", "c", "A", "a ", ["a"], ("a",), {}, "x" * 50000, 10 ** 40])]),
]

CASES = STAGE_26 + STAGE_27 + STAGE_28 + STAGE_29 + STAGE_30 + STAGE_31
MAKERS = [("windows", "Window", "line", NO_LINE, "BadLine"), ("desk", "Desk", "net", NO_NETS, "BadNet")]
