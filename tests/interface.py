"""The interface, function by function: arguments that are right, and those that are wrong in one way.

Each row: file, function, names of its arguments, a list of right arguments, and the errors in the
sequence in which they are named: the error, the arguments that it concerns, wrong values for them,
and what its value holds, where this is not these arguments: other ones, or what a function finds in them.
"""

import importlib


class Case:
    base = None

    def __init__(self, module, name, names, good, steps=()):
        self.module = module
        self.name = name
        self.names = tuple(names.split())
        self.good = good
        self.steps = [Step(*step) for step in steps]

    def named(self, args):
        return dict(zip(self.names, args))

    def defined(self):
        """The function as its file defines it."""
        return vars(importlib.import_module("staybars." + self.module))[self.name]

    def function(self):
        """What is called with the arguments."""
        return self.defined()

    def right(self):
        """Arguments by their names among which wrong ones are put."""
        return self.named(self.good[0] if self.good else self.base or [None] * len(self.names))


class Step:
    def __init__(self, error, names, wrong, told=None):
        self.error = error
        self.names = tuple(names.split())
        self.told = told
        self.wrong = [value if len(self.names) > 1 else (value,) for value in wrong]

    def values(self, named):
        """The list of what the error's value holds."""
        if callable(self.told):
            return [self.told(named)]
        names = self.told.split() if self.told else self.names
        return [named[name] for name in names]


TRIP = (3, ((0, 3), (0, 3), (1, 2)), ((0, 1, 0, 1), (0, 2, 1, 2), (1, 2, 1, 2)))
ONE_DAY = (0, ((0, 0),), ())
EMPTY = (0, (), ())
NO_NETS = [
    None, True, "net", (), [3, (), ()], (3, [], ()), (3, (), []), (True, (), ()), (-1, (), ()), (9, (), ()),
    (3, ((0, 4),), ()), (3, ((2, 1),), ()), (3, ((0, True),), ()), (3, ([0, 1],), ()), (3, ((0, 1, 2),), ()),
    (3, ((0, 3), (0, 3)), ((1, 0, 0, 1),)), (3, ((0, 3), (0, 3)), ((0, 0, 0, 1),)), (3, (), (), ()),
]
NO_DAYS = [(None, 1), (0, None), (True, 1), (0, True), (-1, 1), (2, 1), (0, 4), (4, 4), ("0", "1"), ([], {})]
NO_DAY = [None, True, False, -1, 10 ** 30, "0", (0,), [0]]

NETS = ("BadNet", "net", NO_NETS)
STAGE_2 = [
    Case("nets", "is_net", "value", [(TRIP,), (ONE_DAY,), (None,)]),
    Case("nets", "days_of", "net", [(TRIP,), (ONE_DAY,)], [NETS]),
    Case("nets", "points_on", "net day", [(TRIP, 0), (TRIP, 3), (EMPTY, 0)], [NETS, ("BadDay", "day", NO_DAY + [4])]),
    Case("nets", "ties_on", "net day", [(TRIP, 0), (TRIP, 2), (EMPTY, 0)], [NETS, ("BadDay", "day", NO_DAY + [4])]),
    Case("nets", "cut_days", "net first last", [(TRIP, 1, 2), (TRIP, 3, 3)], [NETS, ("BadDays", "first last", NO_DAYS)]),
    Case("nets", "turned_net", "net", [(TRIP,), (EMPTY,)], [NETS]),
    Case("nets", "is_growing", "net", [(TRIP,), (EMPTY,)], [NETS]),
    Case("nets", "renumbered_net", "net order", [(TRIP, (2, 0, 1))], [
        NETS,
        ("BadOrder", "order", [None, [2, 0, 1], (), (0, 1), (0, 1, 1), (0, 1, 3), (0, 1, 2, 3), (0, True, 2),
                               (False, 1, 2), (0, 1, -1), (0, 1, "2"), (0, 1, []), "012", 10 ** 30]),
    ]),
]

DAY = ("BadDay", "day", NO_DAY + [4])
TWO_DAYS = ("BadDay", "day", NO_DAY + [3, 4])
NO_POINT = [None, True, False, -1, 3, "0", (0,), [], 10 ** 30]
STAGE_3 = [
    Case("plain", "groups_on", "net day", [(TRIP, 0), (TRIP, 3), (EMPTY, 0)], [NETS, DAY]),
    Case("plain", "rings_on", "net day", [(TRIP, 1)], [NETS, DAY]),
    Case("plain", "groups_over", "net day", [(TRIP, 2)], [NETS, TWO_DAYS]),
    Case("plain", "rings_over", "net day", [(TRIP, 2)], [NETS, TWO_DAYS]),
    Case("plain", "groups_both", "net day", [(TRIP, 2)], [NETS, TWO_DAYS]),
    Case("plain", "rings_both", "net day", [(TRIP, 1)], [NETS, TWO_DAYS]),
    Case("plain", "who_follows", "net day", [(TRIP, 2)], [NETS, TWO_DAYS]),
    Case("plain", "are_together", "net one other first last", [(TRIP, 0, 1, 0, 2), (TRIP, 2, 2, 0, 1)], [
        NETS, ("BadPoint", "one", NO_POINT), ("BadPoint", "other", NO_POINT), ("BadDays", "first last", NO_DAYS),
    ]),
]

NO_PRIME = [None, True, False, 0, 1, 4, 6, 8, 9, 11, -2, -7, 10 ** 30, "2", (2,), [2], {2: 2}, (), ""]
NO_WIDTH = [None, True, False, -1, 9, 10 ** 30, "2", (2,), [2], (), {}]
PRIME = ("BadPrime", "p", NO_PRIME)
WIDTH = ("BadWidth", "width", NO_WIDTH)
# No entries of a room of width 2 with p = 3.
NO_ENTRY = [None, True, 0, "01", [0, 1], (), (0,), (0, 1, 2), (0, 3), (0, -1), (0, True), (0, "1"), (0, None), ((), ())]
# No entries of any room with p = 3.
NOT_ANY_ENTRY = [None, True, 0, "01", [0, 1], {}, (0, 3), (-1,), (0, True), (False,), ("1",), (0, ()), (0,) * 9]
STAGE_4 = [
    Case("entries", "is_prime", "value", [(2,), (4,), (None,)]),
    Case("entries", "is_entry", "p width value", [(3, 2, (0, 2)), (3, 0, ()), (3, 2, None)], [PRIME, WIDTH]),
    Case("entries", "nought_entry", "width", [(0,), (8,)], [WIDTH]),
    Case("entries", "added_entries", "p one other", [(3, (1, 2), (2, 2)), (3, (), ())], [
        PRIME, ("BadEntry", "one", NOT_ANY_ENTRY), ("BadEntry", "other", NO_ENTRY),
    ]),
    Case("entries", "taken_times", "p number entry", [(3, -2, (1, 2)), (3, 10 ** 40, (1, 2)), (3, 0, ())], [
        PRIME, ("BadNumber", "number", [None, True, False, "1", (1,), [1], {}]), ("BadEntry", "entry", NOT_ANY_ENTRY),
    ]),
    Case("entries", "back_number", "p number", [(3, 2), (7, 3)], [
        PRIME, ("BadNumber", "number", [None, True, False, 0, -1, 7, 8, 10 ** 30, "1", (1,), [1], {}]),
    ]),
]

B_WIDTH = ("BadWidth", "b", NO_WIDTH)
# No tables to width 2 with p = 3.
NO_TABLE = [
    None, True, 0, "ab", [], [(0, 1)], ([0, 1],), ((0,),), ((0, 1, 2),), ((0, 3),), ((0, True),), ((0, 1), (0, -1)),
    ((),), (None,), ((0, 1),) * 9, (((0, 1),),), {}, 10 ** 30,
]
TO_B = ("BadTable", "table", NO_TABLE)
T = ((1, 2), (2, 1), (0, 0))
STAGE_5 = [
    Case("tables", "is_table", "p a b value", [(3, 3, 2, T), (3, 0, 2, ()), (3, 2, 0, ((), ())), (3, 2, 2, None)], [
        PRIME, ("BadWidth", "a", NO_WIDTH), B_WIDTH,
    ]),
    Case("tables", "led_entry", "p b table entry", [(3, 2, T[:2], (1, 2)), (3, 2, (), ())], [
        PRIME, B_WIDTH, TO_B, ("BadEntry", "entry", NO_ENTRY),
    ]),
    Case("tables", "table_behind", "p b c first second", [(3, 2, 1, T, ((1,), (2,))), (3, 2, 0, (), ((), ()))], [
        PRIME, B_WIDTH, ("BadWidth", "c", NO_WIDTH), ("BadTable", "first", NO_TABLE),
        ("BadTable", "second", [None, True, [], (), ((1,),), ((1,), (2,), (0,)), ((1,), (3,)), ((1,), (True,)),
                                ((1,), [2]), ((1, 0), (0, 1)), [(1,), (2,)], ((1,), (None,))]),
    ]),
    Case("tables", "same_table", "width", [(0,), (8,)], [WIDTH]),
    Case("tables", "mirrored_table", "p b table", [(3, 2, T), (3, 2, ())], [PRIME, B_WIDTH, TO_B]),
    Case("tables", "width_of", "p b table", [(3, 2, T), (3, 2, ())], [PRIME, B_WIDTH, TO_B]),
    Case("tables", "lost_part", "p b table", [(3, 2, T), (3, 2, ())], [PRIME, B_WIDTH, TO_B]),
    Case("tables", "entry_to", "p b table entry", [(3, 2, T, (2, 1)), (3, 2, T, (1, 0)), (3, 2, (), (0, 0))], [
        PRIME, B_WIDTH, TO_B, ("BadEntry", "entry", NO_ENTRY),
    ]),
    Case("tables", "back_of", "p table", [(3, ((1, 2), (0, 1))), (3, ((1, 2), (2, 1))), (3, ())], [
        PRIME,
        ("BadTable", "table", [None, True, 0, "ab", [], [(0, 1), (1, 0)], ((0, 1),), ((0, 1), (1, 3)), ((0, 1), [1, 0]),
                               ((0, 1), (1, True)), ((0, 1), (1, 0), (0, 0)), ((0,) * 9,) * 9, {}, ((),)]),
    ]),
]


# No parts of a room of width 2 with p = 3.
NO_PART = [
    None, True, 0, "ab", [], [(1, 0)], {}, ((2, 0),), ((0, 0),), ((0, 1), (1, 0)), ((1, 1), (0, 1)), ((1, 0), (1, 0)),
    ((1, 0, 0),), ((1,),), ((),), ((1, 3),), ((1, -1),), ((1, True),), ((True, 0),), ([1, 0],), (None,), (((1, 0),),),
    ((1, 0), (0, 2)), ((1, 0), (0, 1), (0, 0)), ((1, 0), (0, 1), (1, 1)), ((((),),),),
]
WHOLE = ((1, 0), (0, 1))
PIECE = ("BadPart", "piece", NO_PART)
TWO_PARTS = [PRIME, WIDTH, ("BadPart", "one", NO_PART), ("BadPart", "other", NO_PART)]
WITHIN = [
    PRIME, WIDTH, ("BadPart", "smaller", NO_PART), ("BadPart", "greater", NO_PART),
    ("NotWithin", "smaller greater", [(((1, 0),), ((0, 1),)), (WHOLE, ((1, 2),)), (((1, 1),), ())], "smaller"),
]
STAGE_6 = [
    Case("parts", "is_part", "p width value", [(3, 2, ((1, 2),)), (3, 0, ()), (3, 2, None)], [PRIME, WIDTH]),
    Case("parts", "part_of", "p width entries", [(3, 2, [(1, 2), (2, 1)]), (3, 2, ((0, 2),)), (3, 2, [])], [
        PRIME, WIDTH, ("BadEntries", "entries", [None, True, 0, 2, "", "ab", {}, {(0, 0): 1}]),
        ("BadEntry", "entries", [[(0, 1), odd] for odd in NO_ENTRY] + [((0, 1), odd, None) for odd in NO_ENTRY],
         lambda named: named["entries"][1]),
    ]),
    Case("parts", "whole_room", "width", [(0,), (8,)], [WIDTH]),
    Case("parts", "part_holds", "p width piece entry", [(3, 2, ((1, 2),), (2, 1)), (3, 2, (), (0, 1))], [
        PRIME, WIDTH, PIECE, ("BadEntry", "entry", NO_ENTRY),
    ]),
    Case("parts", "lies_within", "p width one other", [(3, 2, ((1, 2),), WHOLE), (3, 2, WHOLE, ())], TWO_PARTS),
    Case("parts", "sum_of", "p width one other", [(3, 2, ((1, 2),), ((0, 1),)), (3, 2, (), ())], TWO_PARTS),
    Case("parts", "meet_of", "p width one other", [(3, 2, ((1, 2),), ((0, 1),)), (3, 2, WHOLE, WHOLE)], TWO_PARTS),
    Case("parts", "led_part", "p b table piece", [(3, 2, ((1, 2), (0, 0)), ((1, 2),)), (3, 2, ((0, 1), (0, 1)), ())], [
        PRIME, B_WIDTH, TO_B, PIECE,
    ]),
    Case("parts", "fetched_part", "p b table piece", [(3, 2, T, ((1, 2),)), (3, 2, (), ((0, 1),))], [
        PRIME, B_WIDTH, TO_B, PIECE,
    ]),
    Case("parts", "rest_beyond", "p width smaller greater", [(3, 2, ((1, 2),), WHOLE), (3, 2, (), ())], WITHIN),
    Case("parts", "is_rest_beyond", "p width smaller greater value", [
        (3, 2, ((1, 2),), WHOLE, [(0, 2)]), (3, 2, (), (), []), (3, 2, WHOLE, WHOLE, None),
    ], WITHIN),
]

# No chains of a room of width 2 with p = 3.
NO_CHAIN = [
    None, True, 0, "ab", [], [WHOLE], {}, (), ((),), (((1, 0),),), ((), WHOLE), (WHOLE, WHOLE), (WHOLE, ((1, 0),)),
    (((1, 0),), ((1, 0),), WHOLE), (((1, 0),), ((0, 1),), WHOLE), (((2, 0),), WHOLE), ([(1, 0)], WHOLE), (None, WHOLE),
    (((1, 0),), [(1, 0), (0, 1)]), WHOLE, (((1, 0, 0), (0, 1, 0), (0, 0, 1)),), (WHOLE, None), (((True, 0),), WHOLE),
]
F = (((1, 0),), WHOLE)
G = (((1, 1),), WHOLE)
CHAIN = ("BadChain", "chain", NO_CHAIN)
TWO_CHAINS = [PRIME, WIDTH, ("BadChain", "one", NO_CHAIN), ("BadChain", "other", NO_CHAIN)]
STAGE_7 = [
    Case("chains", "is_chain", "p width value", [(3, 2, F), (3, 0, ()), (3, 2, None)], [PRIME, WIDTH]),
    Case("chains", "step_of", "p width chain entry", [(3, 2, F, (1, 1)), (3, 2, F, (0, 0))], [
        PRIME, WIDTH, CHAIN, ("BadEntry", "entry", NO_ENTRY),
    ]),
    Case("chains", "meets_of", "p width one other", [(3, 2, F, G), (3, 0, (), ())], TWO_CHAINS),
    Case("chains", "shares_of", "p width one other", [(3, 2, F, G), (3, 0, (), ())], TWO_CHAINS),
    Case("chains", "one_base", "p width one other", [(3, 2, F, G), (3, 0, (), ())], TWO_CHAINS),
    Case("chains", "is_one_base", "p width one other value", [(3, 2, F, G, ((1, 0), (1, 1))), (3, 2, F, F, None)], TWO_CHAINS),
    Case("chains", "led_chain", "p b table chain", [(3, 2, ((1, 1), (0, 0)), F), (3, 2, ((1, 1), (0, 0)), G)], [
        PRIME, B_WIDTH, TO_B, CHAIN,
    ]),
    Case("chains", "fetched_chain", "p b table chain", [(3, 2, T, F), (3, 2, (), F)], [PRIME, B_WIDTH, TO_B, CHAIN]),
]

L = (5, (1, 2, 1), ((">", ((1, 0),)), ("<", ((1, 1),))))
NO_LINE = [
    None, True, 0, "line", (), [], [5, (1,), ()], (4, (1,), ()), (True, (1,), ()), (5, (), ()), (5, [1], ()), (5, (1,), []),
    (5, (9,), ()), (5, (-1,), ()), (5, (True,), ()), (5, (1,), (), ()), (5, (1, 2), ()), (5, (1,), ((">", ((1,),)),)),
    (5, (1, 2), (("=", ((1, 0),)),)), (5, (1, 2), ((">", ((1,), (0,))),)), (5, (1, 2), (("<", ((1, 0),)),)),
    (5, (1, 2), ([">", ((1, 0),)],)), (5, (1, 2), ((">", [(1, 0)]),)), (5, (1, 2), ((">", ((1, 5),)),)),
    (5, (1, 2), ((">", ((1, True),)),)), (5, (0,) * 18, ((">", ()),) * 17), (5, (1, 2), ((">",),)), (5, (1, 2), (None,)),
    (5, (1, 2), ((None, ((1, 0),)),)), (5, (1, 2), (((">",), ((1, 0),)),)), {5: 1}, 10 ** 40,
]
LINE = ("BadLine", "line", NO_LINE)
# No stretches of three places.
NO_STRETCH = [
    (None, 1), (0, None), (True, 1), (0, True), (False, 0), (-1, 1), (2, 1), (0, 3), (3, 3), ("0", "1"), ([], {}),
    (0, 10 ** 40), (-10 ** 40, 0), ((0,), 1),
]
M = (5, (2, 0, 1), ((">", ((), ())), ("<", ((),))))
STAGE_8 = [
    Case("lines", "is_line", "value", [(L,), (M,), (None,)]),
    Case("lines", "places_of", "line", [(L,), (M,)], [LINE]),
    Case("lines", "signs_of", "line", [(L,), (M,)], [LINE]),
    Case("lines", "cut_line", "line first last", [(L, 0, 1), (L, 2, 2)], [LINE, ("BadStretch", "first last", NO_STRETCH)]),
    Case("lines", "mirrored_line", "line", [(L,), (M,)], [LINE]),
    Case("lines", "lines_beside", "one other", [(L, M), (L, L)], [
        ("BadLine", "one", NO_LINE), ("BadLine", "other", NO_LINE),
        ("BadPair", "one other", [
            (L, (2, (1, 2, 1), L[2])), (L, (5, (1, 0), ((">", ((),)),))), (L, (5, (0, 0, 0), (("<", ()), ("<", ())))),
            (L, (5, (8, 0, 0), ((">", ((),) * 8), ("<", ())))), (L, (5, (0, 7, 0), ((">", ()), ("<", ())))),
        ]),
    ]),
    Case("lines", "changed_line", "line bases", [(L, (((2,),), ((1, 1), (0, 3)), ((4,),)))], [
        LINE,
        ("BadBases", "bases", [
            None, True, 0, (), [((1,),), WHOLE, ((1,),)], (((1,),), WHOLE), (((1,),), WHOLE, ((1,),), ((1,),)),
            (((1,),), WHOLE, ((0,),)), (((1,),), ((1, 2), (2, 4)), ((1,),)), (((1,),), ((1, 0),), ((1,),)), {},
            (((1,),), [(1, 0), (0, 1)], ((1,),)), (((True,),), WHOLE, ((1,),)), (None, WHOLE, ((1,),)), "abc",
            (((5,),), WHOLE, ((1,),)), (WHOLE, ((1,),), WHOLE), (((1,),), WHOLE, None),
        ]),
    ]),
    Case("lines", "put_together", "left right", [(L, L), (L, (5, (1,), ()))], [
        ("BadLine", "left", NO_LINE), ("BadLine", "right", NO_LINE),
        ("BadPair", "left right", [
            (L, (2, (1,), ())), (L, (5, (2,), ())), (L, M), ((5, (0,) * 17, ((">", ()),) * 16), (5, (0, 0), (("<", ()),))),
        ]),
    ]),
]

H = ((0, 1, 1), (1, 2, 2))
NO_PLACES = [None, True, False, 0, -1, 18, 10 ** 40, "3", (3,), [3], {}]
# No heaps of three places.
NO_HEAP = [
    None, True, 0, "heap", [], [(0, 1, 1)], {}, ((0, 1, 0),), ((0, 1, -1),), ((0, 1, True),), ((0, 3, 1),), ((-1, 0, 1),),
    ((1, 0, 1),), ((0, 1),), ((0, 1, 1, 1),), ([0, 1, 1],), ((1, 2, 1), (0, 1, 1)), ((0, 1, 1), (0, 1, 1)), ((0, 0, 9),),
    ((0, 1, 8), (1, 2, 1)), ((0, 1, 10 ** 40),), (None,), ((None, 1, 1),), ((0, "1", 1),), ((False, 1, 1),), ((0, 1, 1), None),
]
PLACES = ("BadPlaces", "places", NO_PLACES)
HEAP = ("BadHeap", "heap", NO_HEAP)
STAGE_9 = [
    Case("bars", "is_heap", "places value", [(3, H), (3, ()), (3, None)], [PLACES]),
    Case("bars", "bars_of", "places heap", [(3, H), (3, ())], [PLACES, HEAP]),
    Case("bars", "heap_of", "places bars", [(3, [(1, 2), (0, 1), (1, 2)]), (3, [])], [
        PLACES,
        ("BadBars", "bars", [
            None, True, 0, "", (), ((0, 1),), {}, [None], [[0, 1]], [(0, 3)], [(-1, 0)], [(1, 0)], [(0, True)], [(0,)],
            [(0, 1, 1)], [(0, 1)] * 9, [(0, 1)] * 4 + [(1, 2)] * 5, [(0, "1")], [(0, 1), (None, 1)],
        ]),
    ]),
    Case("bars", "widths_of", "places heap", [(3, H), (3, ())], [PLACES, HEAP]),
    Case("bars", "bars_covering", "places heap a b", [(3, H, 1, 2), (3, (), 0, 0)], [
        PLACES, HEAP, ("BadStretch", "a b", NO_STRETCH),
    ]),
    Case("bars", "cut_heap", "places heap first last", [(3, H, 1, 2), (3, (), 0, 0)], [
        PLACES, HEAP, ("BadStretch", "first last", NO_STRETCH),
    ]),
    Case("bars", "mirrored_heap", "places heap", [(3, H), (3, ())], [PLACES, HEAP]),
    Case("bars", "both_heaps", "places one other", [(3, H, H), (3, H, ())], [
        PLACES, ("BadHeap", "one", NO_HEAP), ("BadHeap", "other", NO_HEAP),
        ("BadPair", "one other", [(H, ((1, 1, 6),)), (((0, 0, 8),), ((0, 2, 1),)), (((2, 2, 8),), ((2, 2, 8),))]),
    ]),
    Case("bars", "plain_line", "p heap signs", [(3, H, (">", "<")), (3, (), (">", ">"))], [
        PRIME,
        ("BadSigns", "signs", [None, True, 0, ">", "><", [">", "<"], (">", "="), (">", None), (">", ">="), (">", ("<",)),
                               (">",) * 17, {}, (">", True), ("", ">"), (">", [])]),
        HEAP,
    ]),
]

RANKS = {(0, 0): 1, (0, 1): 1, (0, 2): 0, (1, 1): 3, (1, 2): 2, (2, 2): 2}
NO_RANKS = [
    None, True, 0, "", (), [], {}, tuple(RANKS), {**RANKS, (0, 3): 0}, {**RANKS, "a": 0}, {**RANKS, (0, 2): True},
    {**RANKS, (0, 2): False}, {**RANKS, (0, 2): 2}, {**RANKS, (1, 1): 2}, {**RANKS, (1, 1): 11}, {**RANKS, (1, 1): None},
    {key: RANKS[key] for key in list(RANKS)[1:]}, {**RANKS, (0, 0): "1"}, {**RANKS, (2, 2): -1}, {**RANKS, (0, 0): 10 ** 40},
    {((False, 0) if key == (0, 0) else key): RANKS[key] for key in RANKS},
    {(key[0], key[1], 0): RANKS[key] for key in RANKS}, {**RANKS, (0, 2): -1}, {**RANKS, (0, 0): [1]},
]
NO_LOOKS = [None, True, 0, "", (), ((0, 1),), {}, [None], [[0, 1]], [(0, 3)], [(1, 0)], [(0, True)], [(-1, 0)], [(0, 1, 1)],
            [(0, 0), (0,)], [()], [(0, "0")]]
LOOKS = ("BadLooks", "looks", NO_LOOKS)
STAGE_10 = [
    Case("looks", "rank_of", "line a b", [(L, 0, 1), (M, 2, 2)], [LINE, ("BadStretch", "a b", NO_STRETCH)]),
    Case("looks", "ranks_of", "places heap", [(3, H), (3, ())], [PLACES, HEAP]),
    Case("looks", "are_ranks", "places value", [(3, RANKS), (3, {}), (3, None)], [PLACES]),
    Case("looks", "heap_of_ranks", "places ranks", [(3, RANKS), (1, {(0, 0): 0})], [PLACES, ("BadRanks", "ranks", NO_RANKS)]),
    Case("looks", "looks_enough", "places looks", [(3, [(0, 1), (0, 1)]), (1, [(0, 0)]), (2, [])], [PLACES, LOOKS]),
    Case("looks", "tells_apart", "places looks one other", [(3, [(0, 1)], H, ()), (3, [], H, ())], [
        PLACES, LOOKS, ("BadHeap", "one", NO_HEAP), ("BadHeap", "other", NO_HEAP),
    ]),
]

CASES = STAGE_2 + STAGE_3 + STAGE_4 + STAGE_5 + STAGE_6 + STAGE_7 + STAGE_8 + STAGE_9 + STAGE_10
