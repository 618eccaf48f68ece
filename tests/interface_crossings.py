"""The interface of joints, crossings, alike, shadows and lies, as tests/interface.py tells that of the stages ahead."""

from tests.interface import L, LINE, M, NO_LINE, Case

ONE_PLACE = (5, (1,), ())
UP = (5, (1, 2), ((">", ((1, 0),)),))
LONG = (5, (0,) * 16, ((">", ()),) * 15)
PLACE = ("BadPlace", "k", [None, True, False, -1, 2, 3, 10 ** 40, "1", (1,), [1], {1: 1}, (), ""])
SIGN = ("BadSign", "sign", [None, True, 0, "", "=", "<>", ">>", [">"], (">",), {}, 10 ** 40, b">"])
NO_JOINING = [
    None, True, 0, "()", [], {}, [(0, 2, 1)], ((0, 2, 0),), ((0, 2, 2),), ((0, 2, True),), ((0, 1, 1),), ((2, 2, 1),), ((0, 2),), (None,),
    ([0, 2, 1],), ((0, 2, 1), (1, 2, 1)), ((1, 2, 1), (0, 2, 1)), ((0, 2, 1), (0, 2, 1)), ((0, 2, 10 ** 40),), ((False, 2, 1),), ((0, 2, -1),),
]
TWO_HALVES = [
    ("BadLine", "left", NO_LINE), ("BadLine", "right", NO_LINE), ("BadPair", "left right", [(UP, (3, (1,), ())), (UP, LONG), (LONG, UP)]),
]
# Many bars on either side, each with a birthday and a deathday of its own.
FAN = (2, (1, 2, 3, 4, 5), tuple(
    (">", tuple(tuple(int(i == j) for j in range(width + 1)) for i in range(width))) for width in range(1, 5)
))
FAN_TURNED = (2, FAN[1][::-1], tuple(("<", table) for _, table in FAN[2][::-1]))
STAGE_15 = [
    Case("joints", "joining_at", "line k", [(L, 1), (L, 0), (M, 1)], [LINE, PLACE]),
    Case("joints", "line_with", "left right sign table", [(UP, ONE_PLACE, ">", ((1,), (2,))), (UP, ONE_PLACE, "<", ((1, 2),))], TWO_HALVES + [
        SIGN, ("BadTable", "table", [
            None, True, 0, "ab", [], (), [(1,), (2,)], ((1,),), ((1,), (5,)), ((1,), (True,)), ((1,), [2]), ((1, 2),), ((1,), (2,), (3,)), {},
            ((1,), (-1,)), ((1,), ()), (None, (1,)),
        ]),
    ]),
    Case("joints", "is_joining", "left right value", [(UP, ONE_PLACE, ((0, 2, 1),)), (UP, ONE_PLACE, ()), (UP, ONE_PLACE, None)], TWO_HALVES),
    Case("joints", "heap_joined", "left right value", [(UP, ONE_PLACE, ((0, 2, 1),)), (UP, ONE_PLACE, ())], TWO_HALVES + [
        ("BadJoining", "value", NO_JOINING),
    ]),
    Case("joints", "map_for", "left right sign value", [(UP, ONE_PLACE, ">", ((0, 2, 1),)), (UP, ONE_PLACE, "<", ())], TWO_HALVES + [
        SIGN, ("BadJoining", "value", NO_JOINING),
    ]),
    Case("joints", "all_joinings", "left right", [(UP, ONE_PLACE), (ONE_PLACE, UP)], TWO_HALVES + [
        ("TooMany", "left right", [(FAN, FAN_TURNED)], lambda named: 1000),
    ]),
]

ONE = (2, (1, 1), ((">", ((1,),)),))
OTHER = (2, (1, 0), ((">", ((),)),))
CROSSING = (((1,),), ((),))
SAME = (((1,),), ((1,),))
NO_FELLOWS = [
    (ONE, (3, (1, 0), ((">", ((),)),))), (ONE, (2, (1, 0), (("<", ()),))), (ONE, (2, (1,), ())), ((2, (1,), ()), ONE),
    (ONE, (2, (1, 0, 0), ((">", ((),)), (">", ())))),
]
FELLOWS = [("BadLine", "one", NO_LINE), ("BadLine", "other", NO_LINE), ("BadPair", "one other", NO_FELLOWS)]
NO_CROSSING = [
    None, True, 0, "ab", [], (), {}, list(CROSSING), CROSSING[:1], CROSSING + CROSSING, (((2,),), ((),)), (((True,),), ((),)), (((1,),), ()),
    (((1,),), ((0,),)), ([(1,)], ((),)), (([1],), ((),)), (None, ((),)), (((1,), (1,)), ((),)), 10 ** 40, (((1, 0),), ((),)), (((1,),), [()]),
]
GIVEN = ("BadCrossing", "crossing", NO_CROSSING)
NO_SAME = [None, CROSSING, (((1,),), ((0,),)), (((0,),), ((1,),)), list(SAME), (((1,),), ((2,),))]
SIGNS = ("BadSigns", "signs", [
    None, True, 0, ">", "><", [">"], ("=",), (None,), (">>",), (("<",),), (">",) * 17, {}, (True,), ("",), ([],), 10 ** 40,
])
NO_BAR = [None, True, 0, "01", [0, 1], (), (0,), (0, 2), (-1, 0), (1, 0), (0, True), (False, 1), (0, "1"), (0, 1, 1), {}, (0, 10 ** 40), (None, 1)]
NO_HEAP_OF_TWO = [
    None, True, 0, "", [], [(0, 1, 1)], {}, ((0, 2, 1),), ((0, 1, 0),), ((0, 1, True),), ((0, 1, 9),), ((1, 1, 1), (0, 1, 1)), ((0, 1),), (None,),
]
APART = (2, (8,) * 5, ((">", ((0,) * 8,) * 8),) * 4)
STAGE_17 = [
    Case("crossings", "is_crossing", "one other value", [(ONE, OTHER, CROSSING), (ONE, OTHER, None), (OTHER, ONE, (((1,),), ()))], FELLOWS),
    Case("crossings", "is_one_to_one", "one other crossing", [(ONE, OTHER, CROSSING), (ONE, ONE, SAME)], FELLOWS + [GIVEN]),
    Case("crossings", "is_onto", "one other crossing", [(ONE, OTHER, CROSSING), (ONE, ONE, SAME)], FELLOWS + [GIVEN]),
    Case("crossings", "same_crossing", "line", [(L,), (M,)], [LINE]),
    Case("crossings", "behind_crossing", "one middle other first second", [(ONE, ONE, OTHER, SAME, CROSSING), (ONE, OTHER, OTHER, CROSSING, (((1,),), ()))], [
        ("BadLine", "one", NO_LINE), ("BadLine", "middle", NO_LINE), ("BadLine", "other", NO_LINE),
        ("BadPair", "one middle", NO_FELLOWS), ("BadPair", "other", [pair[1] for pair in NO_FELLOWS[:3]], "middle other"),
        ("BadCrossing", "first", NO_SAME), ("BadCrossing", "second", NO_CROSSING),
    ]),
    Case("crossings", "sum_crossing", "one other first second number", [(ONE, OTHER, CROSSING, CROSSING, 3), (ONE, ONE, SAME, SAME, -10 ** 40)], FELLOWS + [
        ("BadCrossing", "first", NO_CROSSING), ("BadCrossing", "second", NO_CROSSING),
        ("BadNumber", "number", [None, True, False, "1", (1,), [1], {}, b"1", ""]),
    ]),
    Case("crossings", "bars_cross", "signs first second", [((">",), (0, 1), (0, 0)), (("<",), (0, 0), (0, 1)), ((">",), (0, 0), (1, 1))], [
        SIGNS, ("BadStretch", "first", NO_BAR), ("BadStretch", "second", NO_BAR),
    ]),
    Case("crossings", "crossing_width", "signs one other", [((">",), ((0, 1, 2),), ((0, 0, 3), (1, 1, 1))), (("<",), (), ())], [
        SIGNS, ("BadHeap", "one", NO_HEAP_OF_TWO), ("BadHeap", "other", NO_HEAP_OF_TWO),
    ]),
    Case("crossings", "all_crossings", "one other", [(ONE, OTHER), (OTHER, ONE), (L, L)], FELLOWS + [
        ("TooMany", "one other", [(APART, APART)], lambda named: 300),
    ]),
]

TWO = (3, (1, 1), ((">", ((1,),)),)), (3, (1, 1), ((">", ((2,),)),))
STAGE_18 = [
    Case("alike", "alike_crossing", "one other", [(ONE, ONE), (ONE, OTHER), TWO], FELLOWS),
    Case("alike", "back_crossing", "one other crossing", [(ONE, OTHER, CROSSING), TWO + ((((1,),), ((2,),)),)], FELLOWS + [GIVEN]),
    Case("alike", "parting_stretch", "one other", [(ONE, ONE), (ONE, OTHER), TWO], FELLOWS),
]
STAGE_19 = [
    Case("shadows", name, "one other crossing", [(ONE, OTHER, CROSSING), (ONE, ONE, SAME)], FELLOWS + [GIVEN])
    for name in ("led_line", "lost_line", "rest_line")
]

BACK = (2, (1, 1), (("<", ((1,),)),))
NOT_FORTH = ("NotForth", "one other", [(BACK, BACK), (BACK, (2, (1, 0), (("<", ()),)))], "one")
STAGE_20 = [
    Case("lies", name, "one other", [(ONE, OTHER), (OTHER, ONE), (ONE, ONE)], FELLOWS + [NOT_FORTH])
    for name in ("into_crossing", "onto_crossing", "more_ends", "fewer_births")
]

CASES = STAGE_15 + STAGE_17 + STAGE_18 + STAGE_19 + STAGE_20
