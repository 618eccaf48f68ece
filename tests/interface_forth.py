"""The interface of shifts, matchings, there and back, lines of nets and tides, as tests/interface.py tells the stages ahead."""

from tests.interface import EMPTY, NETS, NO_HEAP, NO_LINE, NO_PRIME, ONE_DAY, PLACES, PRIME, TRIP, Case

S = (2, (1, 1, 1, 0, 0), ((">", ((1,),)), (">", ((1,),)), (">", ((),)), (">", ())))
T = (2, (0, 1, 1, 1, 0), ((">", ()), (">", ((1,),)), (">", ((1,),)), (">", ((),))))
ONE_PLACE = (5, (1,), ())
# Lines with a sign back, of as many places as S, and of others.
NOT_FORTH = [
    (2, (1, 1, 1, 0, 0), ((">", ((1,),)), (">", ((1,),)), ("<", ()), (">", ()))), (2, (1, 1), (("<", ((1,),)),)),
    (2, (0, 0, 0, 0, 0), (("<", ()), (">", ()), (">", ()), (">", ()))), (3, (0, 0, 0), ((">", ()), ("<", ()))),
]
LINE = ("BadLine", "line", NO_LINE)
FORTH = ("NotForth", "line", NOT_FORTH)
NO_NUMBER = [None, True, False, -1, 41, 10 ** 40, -10 ** 40, "1", (1,), [1], {1: 1}, (), "", b"1"]
MANY = ("BadNumber", "many", NO_NUMBER)
NUMBER = ("BadNumber", "e", NO_NUMBER)
# No bars of three places.
NO_BAR = [None, True, 0, "01", [0, 1], (), (0,), (0, 3), (-1, 0), (1, 0), (0, True), (False, 1), (0, "1"), (0, 1, 1), {}, (0, 10 ** 40), (None, 1)]
BAR = ("BadBar", "bar", NO_BAR)
STAGE_21 = [
    Case("shifts", "is_forth", "line", [(S,), (ONE_PLACE,), (NOT_FORTH[0],)], [LINE]),
    Case("shifts", "steps_on", "line k many", [(S, 0, 2), (S, 4, 40), (ONE_PLACE, 0, 0)], [
        LINE, FORTH, ("BadPlace", "k", [None, True, False, -1, 5, 10 ** 40, "1", (1,), [1], {1: 1}, (), ""]), MANY,
    ]),
    Case("shifts", "shifted_line", "line many", [(S, 2), (S, 40), (ONE_PLACE, 0)], [LINE, FORTH, MANY]),
    Case("shifts", "goes_on", "places bar", [(3, (0, 1)), (3, (2, 2)), (1, (0, 0))], [PLACES, BAR]),
    Case("shifts", "length_of", "places bar", [(3, (0, 1)), (3, (2, 2)), (1, (0, 0))], [PLACES, BAR]),
    Case("shifts", "is_long", "places bar e", [(3, (0, 1), 0), (3, (2, 2), 40), (3, (0, 1), 1)], [PLACES, BAR, NUMBER]),
]

A, B = ((0, 1, 1), (2, 2, 1)), ((0, 0, 1), (1, 1, 1), (1, 2, 1))
MATCHING = (((0, 1), (0, 0), 1), ((2, 2), (1, 2), 1))
TWO_HEAPS = [PLACES, ("BadHeap", "one", NO_HEAP), ("BadHeap", "other", NO_HEAP)]
STAGE_22 = [
    Case("matchings", "bars_fit", "places one other e", [(3, (0, 1), (1, 1), 1), (3, (0, 1), (1, 2), 40), (1, (0, 0), (0, 0), 0)], [
        PLACES, ("BadBar", "one", NO_BAR), ("BadBar", "other", NO_BAR), NUMBER,
    ]),
    Case("matchings", "matching_of", "places one other e", [(3, A, B, 1), (3, A, B, 0), (3, (), (), 40)], TWO_HEAPS + [NUMBER]),
    Case("matchings", "is_matching", "places one other e value", [(3, A, B, 1, MATCHING), (3, A, B, 1, None), (3, (), (), 0, ())], TWO_HEAPS + [NUMBER]),
    Case("matchings", "lot_of", "places one other e", [(3, A, B, 0), (3, A, B, 1), (3, (), A, 40)], TWO_HEAPS + [NUMBER]),
    Case("matchings", "is_lot", "places one other e value", [
        (3, A, B, 0, ("one", ((0, 1),))), (3, A, B, 1, ("one", ((0, 1),))), (3, (), A, 40, ("other", ((2, 2),))),
    ], TWO_HEAPS + [NUMBER]),
    Case("matchings", "least_e", "places one other", [(3, A, B), (3, A, ()), (3, (), ())], TWO_HEAPS),
]

NO_PAIRS = [(S, (3,) + S[1:]), (S, (2, (0,), ())), ((2, (0,), ()), S), (ONE_PLACE, S), (S, (2, (0, 0, 0, 0), ((">", ()),) * 3))]
FORTH_PAIR = [
    ("BadLine", "one", NO_LINE), ("BadLine", "other", NO_LINE), ("NotForth", "one", NOT_FORTH), ("NotForth", "other", NOT_FORTH),
    ("BadPair", "one other", NO_PAIRS),
]
OF_S_AND_T = (((0, 2), (1, 3), 1),)
W = ((((1,),), ((1,),), ((1,),), (), ()), ((), ((1,),), ((),), ((),), ()))
NO_MATCHING = [
    None, True, 0, "ab", [], (), {}, list(OF_S_AND_T), OF_S_AND_T * 2, (((0, 2), (1, 3), 2),), (((0, 2), (1, 3), 0),), (((0, 2), (1, 3), True),),
    (((1, 3), (0, 2), 1),), ([(0, 2), (1, 3), 1],), (((0, 2), [1, 3], 1),), (((False, 2), (1, 3), 1),), (((0, 2), (1, 3)),), (None,), ((0, 2, 1),),
    (((0, 2), (1, 3), 10 ** 40),),
]
NO_ROUND = [
    None, True, 0, "ab", [], (), {}, list(W), W[:1], W + W, W[::-1], (W[0], W[0]), (W[0], None), ([], []), ((), ()), (W[0], list(W[1])),
    ((((0,),), ((0,),), ((0,),), (), ()), W[1]), (W[0], ((), ((0,),), ((),), ((),), ())), (W[0][:4], W[1]), (W[0], W[1] + ((),)),
    ((((True,),), ((1,),), ((1,),), (), ()), W[1]), (W[0], ((), ((1,),), ((),), [()], ())),
]
STAGE_23 = [
    Case("thereback", "are_within", "one other e", [(S, T, 1), (S, T, 0), (ONE_PLACE, ONE_PLACE, 40)], FORTH_PAIR + [NUMBER]),
    Case("thereback", "least_between", "one other", [(S, T), (S, (2, (0, 0, 0, 0, 1), ((">", ()),) * 4)), (ONE_PLACE, ONE_PLACE)], FORTH_PAIR),
    Case("thereback", "tables_for", "one other e value", [(S, T, 1, OF_S_AND_T), (T, T, 0, (((1, 3), (1, 3), 1),))], FORTH_PAIR + [
        NUMBER, ("NotMatching", "value", NO_MATCHING),
    ]),
    Case("thereback", "there_and_back", "one other e", [(S, T, 1), (S, T, 0), (ONE_PLACE, ONE_PLACE, 40)], FORTH_PAIR + [NUMBER]),
    Case("thereback", "are_tables_on", "one other e value", [(S, T, 1, W[0]), (T, S, 1, W[1]), (S, T, 1, None)], FORTH_PAIR + [NUMBER]),
    Case("thereback", "is_there_and_back", "one other e value", [(S, T, 1, W), (S, T, 1, W[::-1]), (S, T, 1, None)], FORTH_PAIR + [NUMBER]),
    Case("thereback", "led_matching", "one other e value", [(S, T, 1, W), (T, S, 1, W[::-1])], FORTH_PAIR + [
        NUMBER, ("NotThereAndBack", "value", NO_ROUND),
    ]),
]

NO_WAY = [None, True, 0, "", "union", "Unions", "meets ", "groups", ["unions"], ("unions",), {}, 10 ** 40, b"unions", "x" * 50000]
WAY = ("BadWay", "way", NO_WAY)
NO_SPOT = [None, True, False, -1, 7, 8, 10 ** 40, "1", (1,), [1], {1: 1}, (), ""]
STAGE_24 = [
    Case("netlines", "groups_line", "net way p", [(TRIP, "unions", 2), (TRIP, "meets", 7), (EMPTY, "meets", 3)], [NETS, WAY, PRIME]),
    Case("netlines", "rings_line", "net way p", [(TRIP, "unions", 2), (TRIP, "meets", 7), (EMPTY, "meets", 3)], [NETS, WAY, PRIME]),
    Case("netlines", "ring_base", "net way place p", [(TRIP, "unions", 1, 5), (TRIP, "meets", 6, 2), (EMPTY, "meets", 0, 3)], [
        NETS, WAY, ("BadPlace", "place", NO_SPOT), ("BadPrime", "p", NO_PRIME),
    ]),
]

NO_DAYS = [None, True, False, 0, -1, 10, 10 ** 40, "3", (3,), [3], {}, 3 * 10 ** 3000]
# No heaps of three places, so of two days.
NO_ODD = NO_HEAP + [((0, 0, 1), (1, 1, 1)), ((1, 1, 8),)]
STAGE_25 = [
    Case("tides", "net_heaps", "net way", [(TRIP, "unions"), (TRIP, "meets"), (ONE_DAY, "meets"), (EMPTY, "unions")], [NETS, WAY]),
    Case("tides", "turned_over", "way days groups_heap rings_heap", [
        ("unions", 2, ((0, 2, 1), (2, 2, 1)), ((0, 1, 1), (1, 1, 2))), ("unions", 2, (), ()),
    ], [WAY, ("BadNumber", "days", NO_DAYS), ("BadHeap", "groups_heap", NO_ODD), ("BadHeap", "rings_heap", NO_HEAP)]),
    Case("tides", "turned_over", "way days groups_heap rings_heap", [
        ("meets", 2, ((0, 2, 1), (1, 1, 2), (2, 2, 1)), ((0, 1, 1),)), ("meets", 2, (), ()),
    ], [WAY, ("BadNumber", "days", NO_DAYS), ("BadHeap", "groups_heap", NO_HEAP), ("BadHeap", "rings_heap", NO_ODD)]),
    Case("tides", "plain_ends", "net", [(TRIP,), (ONE_DAY,), (EMPTY,)], [NETS]),
]

CASES = STAGE_21 + STAGE_22 + STAGE_23 + STAGE_24 + STAGE_25
