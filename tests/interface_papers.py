"""The interface of texts, flags, cuts, halves and papers, as tests/interface.py tells that of the stages ahead."""

from tests.interface import H, HEAP, L, LINE, M, NETS, NO_LINE, NO_STRETCH, PLACES, TRIP, EMPTY, Case

LINE_TEXT = "line 5 1; > 2 10; < 1 11"
HEAP_TEXT = "heap; 0 1 1; 1 2 2"
NET_TEXT = "net 3; point 0 3; point 1 2; tie 0 1 1 2"
NO_STRINGS = [None, True, 0, 10 ** 40, b"heap", [HEAP_TEXT], (LINE_TEXT,), {NET_TEXT: 1}, [], {}, ()]
WRONG_TEXTS = {
    "": 0, "; ": 0, "x" * 50000: 0, "line": 0, "heap 3": 0, "net": 0, "Net 3": 0, " net 3": 0, "line 5": 0, "line 4 1": 0,
}
WRONG_LINES = {
    **WRONG_TEXTS, HEAP_TEXT: 0, NET_TEXT: 0, LINE_TEXT + "; ": 3, LINE_TEXT + " ": 2, LINE_TEXT.replace("10", "1"): 1,
    "line 2 0" + "; > 0" * 17: 17,
}
WRONG_HEAPS = {
    **WRONG_TEXTS, LINE_TEXT: 0, NET_TEXT: 0, HEAP_TEXT + "; ": 3, HEAP_TEXT + "; 1 2 1": 3, "heap; 0 3 1": 1, "heap; 0 0 9": 1,
}
WRONG_NETS = {
    **WRONG_TEXTS, LINE_TEXT: 0, HEAP_TEXT: 0, NET_TEXT + "; ": 4, NET_TEXT + "; point 0 0": 4, NET_TEXT + "; tie 0 1 0 0": 4,
}


def text_step(wrong):
    """BadText with the number that belongs to a text; 0 for what is no string."""
    def told(named):
        text = named["text"]
        return wrong[text] if isinstance(text, str) else 0
    return ("BadText", "text", NO_STRINGS + list(wrong), told)


STAGE_11 = [
    Case("texts", "write_line", "line", [(L,), (M,)], [LINE]),
    Case("texts", "write_heap", "places heap", [(3, H), (3, ())], [PLACES, HEAP]),
    Case("texts", "write_net", "net", [(TRIP,), (EMPTY,)], [NETS]),
    Case("texts", "read_line", "text", [(LINE_TEXT,), ("line 2 0",)], [text_step(WRONG_LINES)]),
    Case("texts", "read_heap", "places text", [(3, HEAP_TEXT), (1, "heap")], [PLACES, text_step(WRONG_HEAPS)]),
    Case("texts", "read_net", "text", [(NET_TEXT,), ("net 0",)], [text_step(WRONG_NETS)]),
    Case("texts", "kind_of_text", "text", [(LINE_TEXT,), ("heap",), ("fish",), (None,)]),
]

ONE_PLACE = (5, (2,), ())
# No entries, but nought, of the rooms at either end of the line W.
W = (5, (2, 1, 2), (("<", ((1, 0),)), (">", ((1, 1),))))
NOT_BORN = [None, True, 0, "10", [1, 0], (), (1,), (0, 0), (1, 0, 0), (1, 5), (1, True), (1, -1), (1, "0"), {}, 10 ** 40]
BORN = ("BadEntry", "entry", NOT_BORN)
STAGE_12 = [
    Case("flags", name, "line", [(L,), (M,), (ONE_PLACE,)], [LINE])
    for name in ("left_flag", "right_flag", "flags_of", "births_of", "deaths_of", "ended_bars", "heap_of_line")
] + [
    Case("flags", name, "line entry", [(W, (3, 1)), (ONE_PLACE, (0, 4))], [LINE, BORN]) for name in ("birthday_of", "deathday_of")
]

PLACE = ("BadPlace", "k", [None, True, False, -1, 3, 10 ** 40, "1", (1,), [1], {1: 1}, (), ""])
STAGE_13 = [
    Case("cuts", name, "line k", [(L, 1), (L, 0), (M, 2), (ONE_PLACE, 0)], [LINE, PLACE])
    for name in ("meets_at", "bars_over", "bars_ahead", "bars_past")
]

UP = (5, (1, 2), ((">", ((1, 0),)),))
DOWN = (5, (1, 2), (("<", ((0,), (1,))),))
LONG = (5, (2,) + (0,) * 15 + (2,), ((">", ((), ())),) + ((">", ()),) * 15)
NO_HALVES = [
    (UP, (2, (1, 2), ((">", ((1, 0),)),))), (UP, ONE_PLACE), (UP, (5, (2, 1), ((">", ((1,), (0,))),))), (LONG, LONG), (ONE_PLACE, UP),
]
HALVES = [("BadLine", "one", NO_LINE), ("BadLine", "other", NO_LINE), ("BadPair", "one other", NO_HALVES)]
LIKE_HALVES = HALVES[:2] + [("BadPair", "one other", NO_HALVES + [(UP, DOWN), (DOWN, UP)])]
WAY = (((1,),), ((1, 0), (0, 1)))
STAGE_14 = [
    Case("halves", "are_exchangeable", "one other", [(UP, DOWN), (UP, UP)], HALVES),
    Case("halves", "parting_half", "one other", [(UP, DOWN), (UP, UP)], HALVES),
    Case("halves", "tells_halves", "one other right", [(UP, DOWN, (5, (2, 1), (("<", ((1, 1),)),))), (UP, DOWN, ONE_PLACE)], [
        ("BadLine", "one", NO_LINE), ("BadLine", "other", NO_LINE), ("BadLine", "right", NO_LINE), ("BadPair", "one other", NO_HALVES),
        ("BadPair", "right", [(5, (1,), ()), (2, (2,), ()), (5, (0, 2), (("<", ((), ())),)), LONG], "one right"),
    ]),
    Case("halves", "unlike_entry", "one other", [(UP, DOWN), (UP, UP)], HALVES),
    Case("halves", "way_between", "one other", [(UP, (5, (1, 2), ((">", ((3, 0),)),))), (UP, (5, (1, 2), ((">", ((0, 0),)),)))], LIKE_HALVES),
    Case("halves", "is_way", "one other value", [(UP, UP, WAY), (UP, UP, None), (UP, UP, (((2,),), WAY[1]))], LIKE_HALVES),
]

P = ((1, 2, ((1, 1), (1,))), (0, 1, ((1,), (1, 0))))
NO_PAPER = [
    None, True, 0, "paper", [], (), {}, list(P), P[:1], P + P, ((1, 2, ((2, 1), (1,))), P[1]), (P[0], (0, 1, [(1,), (1, 0)])), (P[0], None),
    (P[0], (False, 1, ((1,), (1, 0)))), (P[0], (0, 1, ((1,), (1, True)))), (P[0], (0, 3, ((1,), (1, 0), (0,), ()))), 10 ** 40,
    (P[0], [0, 1, ((1,), (1, 0))]), (P[0], (0, 1, ((1,),))), (P[0], (1, 0, ())),
]
PAPER = ("BadPaper", "value", NO_PAPER)
PM = ((0, 0, ((1, 0),)), (0, 0, ((0, 1),)), (2, 2, ((3,),)))
WIDE = (5, (0, 7, 0), ((">", ()), ("<", ())))
PWIDE = tuple((1, 1, (tuple(int(k == j) for j in range(7)),)) for k in range(7))
STAGE_16 = [
    Case("papers", "paper_of", "line", [(L,), (M,), (ONE_PLACE,)], [LINE]),
    Case("papers", "is_paper", "line value", [(L, P), (L, None), (M, PM), (L, P[:1])], [LINE]),
    Case("papers", "heap_of_paper", "line value", [(L, P), (M, PM)], [LINE, PAPER]),
    Case("papers", "bases_of_paper", "line value", [(L, P), (M, PM)], [LINE, PAPER]),
    Case("papers", "cut_paper", "line value first last", [(L, P, 0, 1), (M, PM, 2, 2)], [
        LINE, PAPER, ("BadStretch", "first last", NO_STRETCH),
    ]),
    Case("papers", "mirrored_paper", "line value", [(L, P), (M, PM)], [LINE, PAPER]),
    Case("papers", "beside_papers", "one first other second", [(L, P, L, P), (L, P, M, PM)], [
        ("BadLine", "one", NO_LINE), ("BadLine", "other", NO_LINE), ("BadPaper", "first", NO_PAPER), ("BadPaper", "second", NO_PAPER),
        ("BadPair", "one first other second", [
            (L, P, WIDE, PWIDE), (L, P, (5, (0, 0, 0), (("<", ()), ("<", ()))), ()), (WIDE, PWIDE, L, P),
            (L, P, (2, (0, 0, 0), ((">", ()), ("<", ()))), ()), (L, P, (5, (0,), ()), ()),
        ], "one other"),
    ]),
    Case("papers", "added_row", "line value i j number", [(L, P, 0, 1, 2), (L, P, 1, 0, 2), (L, P, 1, 0, 0)], [
        LINE, PAPER,
        ("BadRows", "i j", [
            (None, 1), (0, None), (0, 0), (1, 1), (0, 2), (2, 0), (-1, 0), (0, -1), (True, 0), (0, True), (False, 1), ("0", 1), (0, 10 ** 40),
            ([], {}), ((0,), 1),
        ]),
        ("BadNumber", "number", [None, True, False, -1, 5, 10 ** 40, "1", (1,), [1], {}, ()]),
    ]),
]

CASES = STAGE_11 + STAGE_12 + STAGE_13 + STAGE_14 + STAGE_16
