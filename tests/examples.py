"""The examples of the document, stage by stage, as they stand there."""

STAGE_2 = '''
>>> from staybars.nets import cut_days, points_on, renumbered_net, ties_on, turned_net
>>> trip = (3, ((0, 3), (0, 3), (1, 2)), ((0, 1, 0, 1), (0, 2, 1, 2), (1, 2, 1, 2)))
>>> [points_on(trip, 0), points_on(trip, 1), ties_on(trip, 2), ties_on(trip, 3)]
[[0, 1], [0, 1, 2], [1, 2], []]
>>> cut_days(trip, 2, 3)
((1, ((0, 1), (0, 1), (0, 0)), ((0, 2, 0, 0), (1, 2, 0, 0))), (0, 1, 2), (1, 2))
>>> turned_net(trip)
(3, ((0, 3), (0, 3), (1, 2)), ((0, 1, 2, 3), (0, 2, 1, 2), (1, 2, 1, 2)))
>>> renumbered_net(trip, (2, 0, 1))
(3, ((1, 2), (0, 3), (0, 3)), ((1, 2, 0, 1), (0, 1, 1, 2), (0, 2, 1, 2)))
'''

STAGE_3 = '''
>>> from staybars.plain import are_together, groups_both, groups_on, groups_over, rings_on, rings_over, who_follows
>>> [groups_on(trip, day) for day in range(4)]
[[[0, 1]], [[0, 1, 2]], [[0, 1, 2]], [[0], [1]]]
>>> [[rings_on(trip, day) for day in range(4)], [rings_over(trip, day) for day in range(3)]]
[[0, 1, 0, 0], [1, 1, 0]]
>>> [groups_over(trip, 2), groups_both(trip, 2), who_follows(trip, 2)]
[[[0, 1, 2]], [[0], [1]], [(0, 0), (0, 1)]]
>>> [are_together(trip, 0, 1, 0, 2), are_together(trip, 0, 1, 0, 3), are_together(trip, 0, 2, 1, 2), are_together(trip, 2, 2, 0, 1)]
[True, False, True, False]
'''

STAGE_4 = '''
>>> from staybars.entries import added_entries, back_number, is_entry, is_prime, nought_entry, taken_times
>>> [is_prime(5), is_prime(9), is_entry(3, 2, (0, 2)), is_entry(3, 2, (0, 3)), nought_entry(3)]
[True, False, True, False, (0, 0, 0)]
>>> [added_entries(5, (1, 4, 0), (3, 2, 0)), taken_times(7, -2, (1, 3)), back_number(7, 3)]
[(4, 1, 0), (5, 1), 5]
'''

STAGE_5 = '''
>>> from staybars.tables import back_of, entry_to, is_table, led_entry, lost_part, mirrored_table, same_table, table_behind, width_of
>>> [led_entry(5, 2, ((1, 2), (0, 3), (4, 4)), (1, 2, 1)), table_behind(2, 2, 1, ((1, 1), (0, 1)), ((1,), (1,))), back_of(3, ((1, 1), (0, 2)))]
[(0, 2), ((0,), (1,)), ((1, 1), (0, 2))]
>>> T = ((1, 1), (1, 1), (0, 1))
>>> [is_table(2, 3, 2, T), mirrored_table(2, 2, T), width_of(2, 2, T), lost_part(2, 2, T), entry_to(2, 1, ((0,), (0,)), (1,)), same_table(2)]
[True, ((1, 1, 0), (1, 1, 1)), 2, ((1, 1, 0),), None, ((1, 0), (0, 1))]
'''
