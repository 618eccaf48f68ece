"""The interface, function by function: arguments that are right, and those that are wrong in one way.

Each row: file, function, names of its arguments, a list of right arguments, and the errors in the
sequence in which they are named: the error, the arguments that it concerns, wrong values for them,
and the arguments that its value holds (those that it concerns, where not told otherwise).
"""


class Case:
    def __init__(self, module, name, names, good, steps=()):
        self.module = module
        self.name = name
        self.names = tuple(names.split())
        self.good = good
        self.steps = [Step(*step) for step in steps]

    def named(self, args):
        return dict(zip(self.names, args))


class Step:
    def __init__(self, error, names, wrong, told=None):
        self.error = error
        self.names = tuple(names.split())
        self.told = tuple(told.split()) if told else self.names
        self.wrong = [value if len(self.names) > 1 else (value,) for value in wrong]


TRIP = (3, ((0, 3), (0, 3), (1, 2)), ((0, 1, 0, 1), (0, 2, 1, 2), (1, 2, 1, 2)))
ONE_DAY = (0, ((0, 0),), ())
EMPTY = (0, (), ())
NO_NETS = [
    None, True, "net", (), [3, (), ()], (3, [], ()), (3, (), []), (True, (), ()), (-1, (), ()), (9, (), ()),
    (3, ((0, 4),), ()), (3, ((2, 1),), ()), (3, ((0, True),), ()), (3, ([0, 1],), ()), (3, ((0, 1, 2),), ()),
    (3, ((0, 3), (0, 3)), ((1, 0, 0, 1),)), (3, ((0, 3), (0, 3)), ((0, 0, 0, 1),)), (3, (), (), ()),
]
NO_DAYS = [(None, 1), (0, None), (True, 1), (0, True), (-1, 1), (2, 1), (0, 4), (4, 4), ("0", "1"), ([], {})]
NO_DAY = [None, True, False, -1, 10 ** 30, "0", (0,), [0]]

NETS = ("BadNet", "net", NO_NETS)
STAGE_2 = [
    Case("nets", "is_net", "value", [(TRIP,), (ONE_DAY,), (None,)]),
    Case("nets", "days_of", "net", [(TRIP,), (ONE_DAY,)], [NETS]),
    Case("nets", "points_on", "net day", [(TRIP, 0), (TRIP, 3), (EMPTY, 0)], [NETS, ("BadDay", "day", NO_DAY + [4])]),
    Case("nets", "ties_on", "net day", [(TRIP, 0), (TRIP, 2), (EMPTY, 0)], [NETS, ("BadDay", "day", NO_DAY + [4])]),
    Case("nets", "cut_days", "net first last", [(TRIP, 1, 2), (TRIP, 3, 3)], [NETS, ("BadDays", "first last", NO_DAYS)]),
    Case("nets", "turned_net", "net", [(TRIP,), (EMPTY,)], [NETS]),
    Case("nets", "is_growing", "net", [(TRIP,), (EMPTY,)], [NETS]),
    Case("nets", "renumbered_net", "net order", [(TRIP, (2, 0, 1))], [
        NETS,
        ("BadOrder", "order", [None, [2, 0, 1], (), (0, 1), (0, 1, 1), (0, 1, 3), (0, 1, 2, 3), (0, True, 2),
                               (False, 1, 2), (0, 1, -1), (0, 1, "2"), (0, 1, []), "012", 10 ** 30]),
    ]),
]

DAY = ("BadDay", "day", NO_DAY + [4])
TWO_DAYS = ("BadDay", "day", NO_DAY + [3, 4])
NO_POINT = [None, True, False, -1, 3, "0", (0,), [], 10 ** 30]
STAGE_3 = [
    Case("plain", "groups_on", "net day", [(TRIP, 0), (TRIP, 3), (EMPTY, 0)], [NETS, DAY]),
    Case("plain", "rings_on", "net day", [(TRIP, 1)], [NETS, DAY]),
    Case("plain", "groups_over", "net day", [(TRIP, 2)], [NETS, TWO_DAYS]),
    Case("plain", "rings_over", "net day", [(TRIP, 2)], [NETS, TWO_DAYS]),
    Case("plain", "groups_both", "net day", [(TRIP, 2)], [NETS, TWO_DAYS]),
    Case("plain", "rings_both", "net day", [(TRIP, 1)], [NETS, TWO_DAYS]),
    Case("plain", "who_follows", "net day", [(TRIP, 2)], [NETS, TWO_DAYS]),
    Case("plain", "are_together", "net one other first last", [(TRIP, 0, 1, 0, 2), (TRIP, 2, 2, 0, 1)], [
        NETS, ("BadPoint", "one", NO_POINT), ("BadPoint", "other", NO_POINT), ("BadDays", "first last", NO_DAYS),
    ]),
]

NO_PRIME = [None, True, False, 0, 1, 4, 6, 8, 9, 11, -2, -7, 10 ** 30, "2", (2,), [2], {2: 2}, (), ""]
NO_WIDTH = [None, True, False, -1, 9, 10 ** 30, "2", (2,), [2], (), {}]
PRIME = ("BadPrime", "p", NO_PRIME)
WIDTH = ("BadWidth", "width", NO_WIDTH)
# No entries of a room of width 2 with p = 3.
NO_ENTRY = [None, True, 0, "01", [0, 1], (), (0,), (0, 1, 2), (0, 3), (0, -1), (0, True), (0, "1"), (0, None), ((), ())]
# No entries of any room with p = 3.
NOT_ANY_ENTRY = [None, True, 0, "01", [0, 1], {}, (0, 3), (-1,), (0, True), (False,), ("1",), (0, ()), (0,) * 9]
STAGE_4 = [
    Case("entries", "is_prime", "value", [(2,), (4,), (None,)]),
    Case("entries", "is_entry", "p width value", [(3, 2, (0, 2)), (3, 0, ()), (3, 2, None)], [PRIME, WIDTH]),
    Case("entries", "nought_entry", "width", [(0,), (8,)], [WIDTH]),
    Case("entries", "added_entries", "p one other", [(3, (1, 2), (2, 2)), (3, (), ())], [
        PRIME, ("BadEntry", "one", NOT_ANY_ENTRY), ("BadEntry", "other", NO_ENTRY),
    ]),
    Case("entries", "taken_times", "p number entry", [(3, -2, (1, 2)), (3, 10 ** 40, (1, 2)), (3, 0, ())], [
        PRIME, ("BadNumber", "number", [None, True, False, "1", (1,), [1], {}]), ("BadEntry", "entry", NOT_ANY_ENTRY),
    ]),
    Case("entries", "back_number", "p number", [(3, 2), (7, 3)], [
        PRIME, ("BadNumber", "number", [None, True, False, 0, -1, 7, 8, 10 ** 30, "1", (1,), [1], {}]),
    ]),
]

B_WIDTH = ("BadWidth", "b", NO_WIDTH)
# No tables to width 2 with p = 3.
NO_TABLE = [
    None, True, 0, "ab", [], [(0, 1)], ([0, 1],), ((0,),), ((0, 1, 2),), ((0, 3),), ((0, True),), ((0, 1), (0, -1)),
    ((),), (None,), ((0, 1),) * 9, (((0, 1),),), {}, 10 ** 30,
]
TO_B = ("BadTable", "table", NO_TABLE)
T = ((1, 2), (2, 1), (0, 0))
STAGE_5 = [
    Case("tables", "is_table", "p a b value", [(3, 3, 2, T), (3, 0, 2, ()), (3, 2, 0, ((), ())), (3, 2, 2, None)], [
        PRIME, ("BadWidth", "a", NO_WIDTH), B_WIDTH,
    ]),
    Case("tables", "led_entry", "p b table entry", [(3, 2, T[:2], (1, 2)), (3, 2, (), ())], [
        PRIME, B_WIDTH, TO_B, ("BadEntry", "entry", NO_ENTRY),
    ]),
    Case("tables", "table_behind", "p b c first second", [(3, 2, 1, T, ((1,), (2,))), (3, 2, 0, (), ((), ()))], [
        PRIME, B_WIDTH, ("BadWidth", "c", NO_WIDTH), ("BadTable", "first", NO_TABLE),
        ("BadTable", "second", [None, True, [], (), ((1,),), ((1,), (2,), (0,)), ((1,), (3,)), ((1,), (True,)),
                                ((1,), [2]), ((1, 0), (0, 1)), [(1,), (2,)], ((1,), (None,))]),
    ]),
    Case("tables", "same_table", "width", [(0,), (8,)], [WIDTH]),
    Case("tables", "mirrored_table", "p b table", [(3, 2, T), (3, 2, ())], [PRIME, B_WIDTH, TO_B]),
    Case("tables", "width_of", "p b table", [(3, 2, T), (3, 2, ())], [PRIME, B_WIDTH, TO_B]),
    Case("tables", "lost_part", "p b table", [(3, 2, T), (3, 2, ())], [PRIME, B_WIDTH, TO_B]),
    Case("tables", "entry_to", "p b table entry", [(3, 2, T, (2, 1)), (3, 2, T, (1, 0)), (3, 2, (), (0, 0))], [
        PRIME, B_WIDTH, TO_B, ("BadEntry", "entry", NO_ENTRY),
    ]),
    Case("tables", "back_of", "p table", [(3, ((1, 2), (0, 1))), (3, ((1, 2), (2, 1))), (3, ())], [
        PRIME,
        ("BadTable", "table", [None, True, 0, "ab", [], [(0, 1), (1, 0)], ((0, 1),), ((0, 1), (1, 3)), ((0, 1), [1, 0]),
                               ((0, 1), (1, True)), ((0, 1), (1, 0), (0, 0)), ((0,) * 9,) * 9, {}, ((),)]),
    ]),
]

ISSUE_2 = STAGE_2 + STAGE_3 + STAGE_4 + STAGE_5
CASES = ISSUE_2
