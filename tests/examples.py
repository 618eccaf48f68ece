"""The examples of the document, stage by stage, as they stand there; STAGE_1 is its first look."""

STAGE_1 = '''
>>> from staybars.tides import net_heaps
>>> trip = (3, ((0, 3), (0, 3), (1, 2)), ((0, 1, 0, 1), (0, 2, 1, 2), (1, 2, 1, 2)))
>>> net_heaps(trip, "unions")
(((0, 6, 1), (6, 6, 1)), ((1, 3, 1),))
'''

STAGE_2 = '''
>>> from staybars.nets import cut_days, points_on, renumbered_net, ties_on, turned_net
>>> trip = (3, ((0, 3), (0, 3), (1, 2)), ((0, 1, 0, 1), (0, 2, 1, 2), (1, 2, 1, 2)))
>>> [points_on(trip, 0), points_on(trip, 1), ties_on(trip, 2), ties_on(trip, 3)]
[[0, 1], [0, 1, 2], [1, 2], []]
>>> cut_days(trip, 2, 3)
((1, ((0, 1), (0, 1), (0, 0)), ((0, 2, 0, 0), (1, 2, 0, 0))), (0, 1, 2), (1, 2))
>>> turned_net(trip)
(3, ((0, 3), (0, 3), (1, 2)), ((0, 1, 2, 3), (0, 2, 1, 2), (1, 2, 1, 2)))
>>> renumbered_net(trip, (2, 0, 1))
(3, ((1, 2), (0, 3), (0, 3)), ((1, 2, 0, 1), (0, 1, 1, 2), (0, 2, 1, 2)))
'''

STAGE_3 = '''
>>> from staybars.plain import are_together, groups_both, groups_on, groups_over, rings_on, rings_over, who_follows
>>> [groups_on(trip, day) for day in range(4)]
[[[0, 1]], [[0, 1, 2]], [[0, 1, 2]], [[0], [1]]]
>>> [[rings_on(trip, day) for day in range(4)], [rings_over(trip, day) for day in range(3)]]
[[0, 1, 0, 0], [1, 1, 0]]
>>> [groups_over(trip, 2), groups_both(trip, 2), who_follows(trip, 2)]
[[[0, 1, 2]], [[0], [1]], [(0, 0), (0, 1)]]
>>> [are_together(trip, 0, 1, 0, 2), are_together(trip, 0, 1, 0, 3), are_together(trip, 0, 2, 1, 2), are_together(trip, 2, 2, 0, 1)]
[True, False, True, False]
'''

STAGE_4 = '''
>>> from staybars.entries import added_entries, back_number, is_entry, is_prime, nought_entry, taken_times
>>> [is_prime(5), is_prime(9), is_entry(3, 2, (0, 2)), is_entry(3, 2, (0, 3)), nought_entry(3)]
[True, False, True, False, (0, 0, 0)]
>>> [added_entries(5, (1, 4, 0), (3, 2, 0)), taken_times(7, -2, (1, 3)), back_number(7, 3)]
[(4, 1, 0), (5, 1), 5]
'''

STAGE_5 = '''
>>> from staybars.tables import back_of, entry_to, is_table, led_entry, lost_part, mirrored_table, same_table, table_behind, width_of
>>> [led_entry(5, 2, ((1, 2), (0, 3), (4, 4)), (1, 2, 1)), table_behind(2, 2, 1, ((1, 1), (0, 1)), ((1,), (1,))), back_of(3, ((1, 1), (0, 2)))]
[(0, 2), ((0,), (1,)), ((1, 1), (0, 2))]
>>> T = ((1, 1), (1, 1), (0, 1))
>>> [is_table(2, 3, 2, T), mirrored_table(2, 2, T), width_of(2, 2, T), lost_part(2, 2, T), entry_to(2, 1, ((0,), (0,)), (1,)), same_table(2)]
[True, ((1, 1, 0), (1, 1, 1)), 2, ((1, 1, 0),), None, ((1, 0), (0, 1))]
'''

STAGE_6 = '''
>>> from staybars.parts import fetched_part, is_part, is_rest_beyond, led_part, lies_within, meet_of, part_holds, part_of, rest_beyond, sum_of, whole_room
>>> [part_of(3, 3, [(2, 1, 0), (0, 0, 2), (1, 2, 0)]), meet_of(2, 3, ((1, 0, 0), (0, 1, 0)), ((1, 1, 1),)), sum_of(2, 2, ((1, 0),), ((1, 1),))]
[((1, 2, 0), (0, 0, 1)), (), ((1, 0), (0, 1))]
>>> [fetched_part(2, 1, ((1,), (1,)), ()), is_rest_beyond(5, 2, ((1, 1),), whole_room(2), [(3, 0)]), is_rest_beyond(5, 2, ((1, 1),), whole_room(2), [(3, 3)])]
[((1, 1),), True, False]
>>> [is_part(5, 2, ((2, 0),)), part_holds(5, 2, ((1, 3),), (2, 1)), lies_within(5, 2, ((1, 3),), ((1, 0),)), led_part(5, 1, ((1,), (3,)), ((1, 3),))]
[False, True, False, ()]
'''

STAGE_7 = '''
>>> from staybars.chains import fetched_chain, is_chain, is_one_base, led_chain, meets_of, one_base, shares_of, step_of
>>> F = (((1, 0),), ((1, 0), (0, 1)))
>>> G = (((1, 1),), ((1, 0), (0, 1)))
>>> [is_chain(2, 2, F), is_chain(2, 2, F[1:]), is_chain(2, 2, F[:1]), step_of(2, 2, G, (0, 1)), meets_of(2, 2, F, G), shares_of(2, 2, F, G)]
[True, True, False, 1, [[0, 1], [1, 2]], [[0, 1], [1, 0]]]
>>> [is_one_base(2, 2, F, G, ((1, 0), (1, 1))), led_chain(2, 2, ((1, 1), (1, 1)), F), fetched_chain(3, 1, ((1,), (0,)), (((1,),),))]
[True, (((1, 1),), ((1, 0), (0, 1))), (((0, 1),), ((1, 0), (0, 1)))]
'''

STAGE_8 = '''
>>> from staybars.lines import changed_line, cut_line, lines_beside, is_line, mirrored_line, places_of, put_together, signs_of
>>> L = (5, (1, 2, 1), ((">", ((1, 0),)), ("<", ((1, 1),))))
>>> [is_line(L), places_of(L), signs_of(L), is_line((5, (1,), ())), is_line((4, (1,), ()))]
[True, 3, ('>', '<'), True, False]
>>> [cut_line(L, 0, 1), mirrored_line(L)]
[(5, (1, 2), (('>', ((1, 0),)),)), (5, (1, 2, 1), (('>', ((1, 1),)), ('<', ((1, 0),))))]
>>> [changed_line(L, (((2,),), ((1, 0), (0, 1)), ((1,),))), put_together(cut_line(L, 0, 1), cut_line(L, 1, 2)) == L]
[(5, (1, 2, 1), (('>', ((2, 0),)), ('<', ((1, 1),)))), True]
'''

STAGE_9 = '''
>>> from staybars.bars import bars_covering, bars_of, both_heaps, cut_heap, heap_of, is_heap, mirrored_heap, plain_line, widths_of
>>> H = ((0, 1, 1), (1, 2, 2))
>>> [is_heap(3, H), is_heap(2, H), bars_of(3, H), heap_of(3, [(1, 2), (0, 1), (1, 2)]) == H]
[True, False, [(0, 1), (1, 2), (1, 2)], True]
>>> [widths_of(3, H), bars_covering(3, H, 1, 2), cut_heap(3, H, 1, 2), mirrored_heap(3, H), both_heaps(3, H, ((0, 0, 1),))]
[(1, 3, 2), 2, ((0, 0, 1), (0, 1, 2)), ((0, 1, 2), (1, 2, 1)), ((0, 0, 1), (0, 1, 1), (1, 2, 2))]
>>> plain_line(2, ((0, 1, 1), (1, 2, 1)), (">", "<"))
(2, (1, 2, 1), (('>', ((1, 0),)), ('<', ((0, 1),))))
'''

STAGE_10 = '''
>>> from staybars.looks import are_ranks, heap_of_ranks, looks_enough, rank_of, ranks_of, tells_apart
>>> [rank_of(L, 0, 1), rank_of(L, 1, 2), rank_of(L, 0, 2), rank_of(L, 1, 1)]
[1, 1, 0, 2]
>>> ranks_of(2, ((0, 0, 1), (0, 1, 2)))
{(0, 0): 3, (0, 1): 2, (1, 1): 2}
>>> [heap_of_ranks(2, {(0, 0): 3, (0, 1): 2, (1, 1): 2}), are_ranks(2, {(0, 0): 1, (0, 1): 2, (1, 1): 2})]
[((0, 0, 1), (0, 1, 2)), False]
>>> [looks_enough(2, [(0, 0), (0, 1), (1, 1)]), tells_apart(2, [(0, 0), (1, 1)], ((0, 1, 1),), ((0, 0, 1), (1, 1, 1)))]
[None, False]
'''

STAGE_11 = '''
>>> from staybars.texts import kind_of_text, read_heap, read_line, read_net, write_heap, write_line, write_net
>>> [write_line(L), read_line("line 5 1; > 2 10; < 1 11") == L, write_line((2, (0, 1, 0), ((">", ()), ("<", ()))))]
['line 5 1; > 2 10; < 1 11', True, 'line 2 0; > 1; < 0']
>>> [write_line((3, (0, 2), (("<", ((), ())),))), write_heap(3, ((0, 1, 2), (1, 2, 1))), read_heap(2, "heap"), kind_of_text("net of fish")]
['line 3 0; < 2 - -', 'heap; 0 1 2; 1 2 1', (), 'net']
>>> [write_net((3, ((0, 3), (1, 2)), ((0, 1, 1, 2),))), read_net("net 0; point 0 0")]
['net 3; point 0 3; point 1 2; tie 0 1 1 2', (0, ((0, 0),), ())]
'''

STAGE_12 = '''
>>> from staybars.flags import birthday_of, births_of, deathday_of, deaths_of, ended_bars, flags_of, heap_of_line, left_flag, right_flag
>>> UP = (5, (1, 2), ((">", ((1, 0),)),))
>>> DOWN = (5, (1, 2), (("<", ((0,), (1,))),))
>>> [left_flag(UP), left_flag(DOWN)]
[((0, ((1, 0),)), (1, ((1, 0), (0, 1)))), ((1, ((1, 0),)), (0, ((1, 0), (0, 1))))]
>>> [birthday_of(UP, (3, 0)), birthday_of(UP, (3, 1)), birthday_of(DOWN, (3, 0)), birthday_of(DOWN, (3, 1)), births_of(UP), births_of(DOWN)]
[0, 1, 1, 0, {0: 1, 1: 1}, {1: 1, 0: 1}]
>>> [heap_of_line(L), ended_bars(L), right_flag(L), deaths_of(L), deathday_of(L, (4,))]
[((0, 1, 1), (1, 2, 1)), ((0, 1, 1),), ((1, ((1,),)),), {1: 1}, 1]
'''

STAGE_13 = '''
>>> from staybars.cuts import bars_ahead, bars_over, bars_past, meets_at
>>> [meets_at(L, 1), bars_over(L, 1), bars_ahead(L, 2), bars_past(L, 0)]
[{(0, 2): 0, (0, 1): 1, (1, 2): 1, (1, 1): 2}, ((0, 1, 1), (1, 2, 1)), ((0, 1, 1),), ((1, 2, 1),)]
'''

STAGE_14 = '''
>>> from staybars.halves import are_exchangeable, is_way, parting_half, tells_halves, unlike_entry, way_between
>>> [are_exchangeable(UP, DOWN), unlike_entry(UP, DOWN) is None, parting_half(UP, UP), way_between(UP, (5, (1, 2), ((">", ((3, 0),)),)))]
[False, False, None, (((2,),), ((1, 0), (0, 1)))]
>>> X = (5, (2, 1), (("<", ((1, 1),)),))
>>> [tells_halves(UP, DOWN, X), tells_halves(UP, DOWN, (5, (2,), ())), is_way(UP, UP, (((1,),), ((1, 0), (0, 1)))), is_way(UP, UP, (((2,),), ((1, 0), (0, 1))))]
[True, False, True, False]
'''

STAGE_15 = '''
>>> from staybars.joints import all_joinings, heap_joined, is_joining, joining_at, line_with, map_for
>>> ONE = (5, (1,), ())
>>> [joining_at(L, 0), joining_at(L, 1), line_with(ONE, ONE, ">", ((2,),)), all_joinings(ONE, ONE)]
[((0, 1, 1),), ((1, 2, 1),), (5, (1, 1), (('>', ((2,),)),)), [(), ((0, 1, 1),)]]
>>> [heap_joined(UP, ONE, ()), heap_joined(UP, ONE, ((0, 2, 1),)), is_joining(UP, ONE, ((0, 2, 1), (1, 2, 1)))]
[((0, 1, 1), (1, 1, 1), (2, 2, 1)), ((0, 2, 1), (1, 1, 1)), False]
>>> map_for(UP, ONE, ">", ())
((0,), (0,))
'''

STAGE_16 = '''
>>> from staybars.papers import added_row, beside_papers, bases_of_paper, cut_paper, heap_of_paper, is_paper, mirrored_paper, paper_of
>>> P, Q = ((1, 2, ((1, 1), (1,))), (0, 1, ((1,), (1, 0)))), ((0, 1, ((1,), (1, 0))), (1, 1, ((0, 1),)))
>>> [is_paper(L, P), is_paper(L, ((1, 2, ((2, 1), (1,))), (0, 1, ((1,), (1, 0))))), is_paper(L, paper_of(L)), heap_of_paper(L, P)]
[True, False, True, ((0, 1, 1), (1, 2, 1))]
>>> [bases_of_paper(L, P), cut_paper(L, P, 0, 0), mirrored_paper(L, P)]
[(((1,),), ((1, 0), (1, 1)), ((1,),)), ((0, 0, ((1,),)),), ((0, 1, ((1,), (1, 1))), (1, 2, ((1, 0), (1,))))]
>>> U = (5, (1, 2), ((">", ((1, 0),)),))
>>> [added_row(U, Q, 1, 0, 3), added_row(U, Q, 0, 1, 3), beside_papers((5, (1,), ()), ((0, 0, ((2,),)),), (5, (1,), ()), ((0, 0, ((1,),)),))]
[((0, 1, ((1,), (1, 0))), (1, 1, ((3, 1),))), None, ((0, 0, ((2, 0),)), (0, 0, ((0, 1),)))]
'''

STAGE_17 = '''
>>> from staybars.crossings import all_crossings, bars_cross, behind_crossing, crossing_width, is_crossing
>>> from staybars.crossings import is_one_to_one, is_onto, same_crossing, sum_crossing
>>> one, other = (2, (1, 1), ((">", ((1,),)),)), (2, (1, 0), ((">", ((),)),))
>>> [is_crossing(one, other, (((1,),), ((),))), is_crossing(other, one, (((1,),), ()))]
[True, False]
>>> [all_crossings(one, other), same_crossing(other)]
[[(((1,),), ((),))], (((1,),), ())]
>>> [is_one_to_one(one, other, (((1,),), ((),))), is_onto(one, other, (((1,),), ((),)))]
[False, True]
>>> [bars_cross((">",), (0, 1), (0, 0)), bars_cross((">",), (0, 0), (0, 1)), bars_cross(("<",), (0, 0), (0, 1))]
[True, False, True]
>>> [bars_cross((">",), (1, 1), (0, 1)), bars_cross((">",), (0, 1), (1, 1)), bars_cross((), (0, 0), (0, 0))]
[True, False, True]
>>> crossing_width((">",), ((0, 1, 2),), ((0, 0, 3), (1, 1, 1)))
6
>>> behind_crossing(one, one, other, (((1,),), ((1,),)), (((1,),), ((),)))
(((1,),), ((),))
>>> sum_crossing(one, one, (((1,),), ((1,),)), (((1,),), ((1,),)), 3)
(((0,),), ((0,),))
'''

STAGE_18 = '''
>>> from staybars.alike import alike_crossing, back_crossing, parting_stretch
>>> from staybars.crossings import is_crossing
>>> one, two, three = (3, (1, 1), ((">", ((1,),)),)), (3, (1, 1), ((">", ((2,),)),)), (3, (1, 1), ((">", ((0,),)),))
>>> way = alike_crossing(one, two)
>>> back = back_crossing(one, two, way)
>>> [is_crossing(one, two, way), is_crossing(two, one, back), alike_crossing(one, three)]
[True, True, None]
>>> [back_crossing(one, two, (((1,),), ((2,),))), back_crossing(one, two, (((0,),), ((0,),)))]
[(((1,),), ((2,),)), None]
>>> [parting_stretch(one, two), parting_stretch(one, three)]
[None, (0, 1)]
'''

STAGE_19 = '''
>>> from staybars.shadows import led_line, lost_line, rest_line
>>> one, other = (2, (1, 1), ((">", ((1,),)),)), (2, (1, 0), ((">", ((),)),))
>>> led_line(one, other, (((1,),), ((),)))
((2, (1, 0), (('>', ((),)),)), (((1,),), ((),)), (((1,),), ()))
>>> [lost_line(one, other, (((1,),), ((),))), rest_line(one, other, (((1,),), ((),)))]
[((2, (0, 1), (('>', ()),)), ((), ((1,),))), ((2, (0, 0), (('>', ()),)), (((),), ()))]
>>> small, room = (3, (1,), ()), (3, (2,), ())
>>> [led_line(small, room, (((1, 2),),)), rest_line(small, room, (((1, 2),),))]
[((3, (1,), ()), (((1,),),), (((1, 2),),)), ((3, (1,), ()), (((1,), (1,)),))]
>>> near, far = (5, (1, 1), ((">", ((1,),)),)), (5, (2, 2), ((">", ((1, 0), (1, 1))),))
>>> rest_line(near, far, (((0, 1),), ((1, 1),)))
((5, (1, 1), (('>', ((4,),)),)), (((1,), (0,)), ((4,), (1,))))
'''

STAGE_20 = '''
>>> from staybars.lies import fewer_births, into_crossing, more_ends, onto_crossing
>>> long, late, brief = (2, (1, 1), ((">", ((1,),)),)), (2, (0, 1), ((">", ()),)), (2, (1, 0), ((">", ((),)),))
>>> [into_crossing(late, long), more_ends(late, long), into_crossing(long, late), more_ends(long, late)]
[((), ((1,),)), None, None, (1, 0)]
>>> [onto_crossing(late, long), fewer_births(late, long), more_ends(brief, long)]
[None, (0, 0), (0, 0)]
>>> [onto_crossing(long, brief), fewer_births(long, brief)]
[(((1,),), ((),)), None]
'''

STAGE_21 = '''
>>> from staybars.shifts import goes_on, is_forth, is_long, length_of, shifted_line, steps_on
>>> S = (2, (1, 1, 1, 0, 0), ((">", ((1,),)), (">", ((1,),)), (">", ((),)), (">", ())))
>>> [is_forth(S), steps_on(S, 0, 2), steps_on(S, 1, 5), shifted_line(S, 2)]
[True, ((1,),), ((),), (2, (1, 0, 0, 0, 0), (('>', ((),)), ('>', ()), ('>', ()), ('>', ())))]
>>> [goes_on(5, (1, 4)), length_of(5, (1, 3)), length_of(5, (1, 4)), is_long(5, (1, 3), 1), is_long(5, (1, 3), 2)]
[True, 3, None, True, False]
'''

STAGE_22 = '''
>>> from staybars.matchings import bars_fit, is_lot, is_matching, least_e, lot_of, matching_of
>>> A, B = ((0, 2, 1),), ((1, 3, 1),)
>>> [bars_fit(5, (0, 2), (1, 3), 1), bars_fit(5, (0, 4), (1, 3), 1), matching_of(5, A, B, 1), matching_of(5, A, B, 0)]
[True, False, (((0, 2), (1, 3), 1),), None]
>>> [is_matching(5, A, B, 2, ()), is_lot(5, A, B, 0, ("other", ((1, 3),))), lot_of(5, A, B, 1)]
[True, True, None]
>>> [least_e(5, A, B), least_e(5, A, ()), least_e(5, ((0, 4, 1),), ())]
[1, 2, None]
'''

STAGE_23 = '''
>>> from staybars.thereback import are_within, is_there_and_back, least_between, led_matching, tables_for, there_and_back
>>> T = (2, (0, 1, 1, 1, 0), ((">", ()), (">", ((1,),)), (">", ((1,),)), (">", ((),))))
>>> W = tables_for(S, T, 1, (((0, 2), (1, 3), 1),))
>>> W
((((1,),), ((1,),), ((1,),), (), ()), ((), ((1,),), ((),), ((),), ()))
>>> [is_there_and_back(S, T, 1, W), led_matching(S, T, 1, W), least_between(S, T), are_within(S, T, 0), there_and_back(S, T, 0)]
[True, (((0, 2), (1, 3), 1),), 1, False, None]
'''

STAGE_24 = '''
>>> from staybars.netlines import groups_line, ring_base, rings_line
>>> groups_line((1, ((0, 1), (0, 1)), ((0, 1, 0, 0),)), "unions", 2)
(2, (1, 1, 2), (('>', ((1,),)), ('<', ((1,), (1,)))))
>>> groups_line((1, ((0, 1), (0, 1)), ((0, 1, 0, 0),)), "meets", 2)
(2, (1, 2, 2), (('<', ((1,), (1,))), ('>', ((1, 0), (0, 1)))))
>>> [ring_base(trip, "unions", 1, 5), rings_line(trip, "unions", 5)[1]]
[((1, 4, 1),), (0, 1, 1, 1, 0, 0, 0)]
'''

STAGE_25 = '''
>>> from staybars.tides import net_heaps, plain_ends, turned_over
>>> [net_heaps(trip, "unions"), net_heaps(trip, "meets")]
[(((0, 6, 1), (6, 6, 1)), ((1, 3, 1),)), (((0, 6, 1), (5, 6, 1)), ((2, 2, 1),))]
>>> turned_over("unions", 4, ((0, 6, 1), (6, 6, 1)), ((1, 1, 2), (1, 3, 1)))
(((0, 6, 1), (1, 1, 2), (5, 6, 1)), ((2, 2, 1),))
>>> plain_ends(trip)
[(0, 0, 0, 0), (0, 0, 0, 0), (0, 0, 0, 1)]
'''

STAGE_26 = '''
>>> from staybars.grown import days_line, elder_names, name_on, shift_of, tables_of_nets
>>> grow = (2, ((0, 2), (0, 2), (1, 2)), ((0, 1, 1, 2), (1, 2, 2, 2)))
>>> [days_line(grow, "groups", 2), elder_names(grow)]
[(2, (2, 2, 1), (('>', ((1, 0), (1, 0))), ('>', ((1,), (1,))))), [(0, 0, 2), (1, 0, 0), (2, 1, 1)]]
>>> [name_on(grow, 0, 2), name_on(grow, 1, 1), name_on(grow, 2, 2)]
[None, 0, 0]
>>> late = (2, ((0, 2), (1, 2), (1, 2)), ((0, 1, 2, 2), (1, 2, 2, 2)))
>>> [shift_of(grow, late), tables_of_nets(grow, late, 1, "groups", 2)]
[1, ((((1, 0, 0), (0, 1, 0)), ((1,), (1,)), ((1,),)), (((1, 0),), ((1,), (1,), (1,)), ((1,),)))]
'''

STAGE_27 = '''
>>> from staybars.counts import count_parts, count_squares, group_of, heaps_with, lines_with, maps_with
>>> [count_squares(2, 2), count_squares(3, 2), count_parts(2, 3, 1), count_parts(2, 2, 3)]
[6, 48, 7, 0]
>>> [group_of(2, ((0, 0, 1), (0, 1, 1)), (">",)), lines_with(2, ((0, 0, 1), (0, 1, 1)), (">",)), heaps_with((1, 1))]
[2, 3, [((0, 0, 1), (1, 1, 1)), ((0, 1, 1),)]]
>>> [maps_with((5, (1,), ()), (5, (1,), ()), ">", ((0, 1, 1),)), maps_with((5, (1,), ()), (5, (1,), ()), "<", ())]
[4, 1]
'''

STAGE_28 = '''
>>> from staybars.windows import Window
>>> window = Window(L)
>>> [window.lives_now(), window.pop_right(), window.mark_now(), window.push_left("<", 1, ((1,),))]
[((0, 1, 1), (1, 2, 1)), (((1, 2, 1),), ((1, 1, 1),)), 0, (((0, 1, 1),), ((-1, 1, 1),))]
>>> [window.first_place(), window.heap_now(), window.put_map(0, ">", ((0, 0),)), window.lives_now()]
[-1, ((0, 2, 1), (2, 2, 1)), (((-1, 1, 1),), ((-1, 0, 1), (1, 1, 1))), ((-1, 0, 1), (1, 1, 2))]
>>> [window.go_back(0), window.first_place(), window.lives_now()]
[None, 0, ((0, 1, 1), (1, 1, 1))]
'''

STAGE_29 = '''
>>> from staybars.desk import Desk, is_deed
>>> desk = Desk((1, (), ()))
>>> [desk.come(0, 1), desk.come(0, 1), desk.bind(0, 1, 0, 0), desk.heap("groups"), desk.heap("groups", way="meets")]
[0, 1, 0, ((0, 2, 1), (2, 2, 1)), ((0, 2, 1), (1, 2, 1))]
>>> [desk.change("groups"), desk.tried(("cut", 0), "groups"), desk.window(1, 1, "groups"), desk.heap("rings")]
[(((0, 2, 1),), ((2, 2, 1),)), (((2, 2, 1),), ((0, 2, 1),)), ((0, 0, 2),), ()]
>>> [desk.do_all([("turn",), ("come", 0, 0)]), desk.net, desk.heap("groups"), is_deed(("go", -1))]
[[None, 2], (1, ((0, 1), (0, 1), (0, 0)), ((0, 1, 1, 1),)), ((0, 0, 1), (0, 1, 1), (0, 2, 1)), False]
>>> [desk.undo(), desk.undo(), len(desk.deeds()), desk.story("groups"), desk.first]
[None, None, 3, [(), ((0, 2, 1),), ((0, 2, 2),), ((0, 2, 1), (2, 2, 1))], (1, (), ())]
'''

STAGE_30 = r'''
>>> from staybars.logs import account_of, common_rows, is_account, is_log, read_log, write_log
>>> log = "net 1\ncome 0 1\ncome 0 1\nbind 0 1 0 0"
>>> [write_log(read_log(log)) == log, is_log("net 1\ncome 0 2"), common_rows(log, "net 1\ncome 0 1\nturn")]
[True, False, 1]
>>> account_of(log, "groups", "meets")
[(), ((0, 2, 1),), ((0, 2, 2),), ((0, 2, 1), (1, 2, 1))]
>>> [is_account(log, "rings", "unions", [(), (), (), ()]), common_rows(log, "net 2"), read_log("net 1; point 0 1\nturn").net]
[True, None, (1, ((0, 1),), ())]
'''

STAGE_31 = '''
>>> from staybars.console import Console
>>> console = Console()
>>> [console.answer(line) for line in ["open a net 1", "come a 0 1", "come a 0 1", "bind a 0 1 0 0", "heap a groups unions"]]
['ok', '0', '1', '0', '0-2*1 2-2*1']
>>> [console.answer(line) for line in ["change a groups meets", "try a groups unions cut 0", "go a 1", "heap a rings unions"]]
['gone 0-2*1 come 1-2*1', 'gone 2-2*1 come 0-2*1', '? PointHeld', '-']
>>> [console.answer(line) for line in ["go b 1", "go a  1", "net a", "names"]]
['? NoDesk', '? BadWords', 'net 1; point 0 1; point 0 1; tie 0 1 0 0', 'a']
'''
