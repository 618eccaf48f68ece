"""Matchings of the bars of two heaps, and the lots that stand against them."""

from staybars.bars import bars_in, check_heap, check_places, piled
from staybars.kinds import is_stretch_of, is_tuple_long, is_whole
from staybars.shifts import check_bar, check_number, is_lasting, stays

ONE = "one"
OTHER = "other"


def fit(places, one, other, e):
    """Whether two stretches that are known to be bars fit for e."""
    if stays(places, one) != stays(places, other):
        return False
    return abs(one[0] - other[0]) <= e and abs(one[1] - other[1]) <= e


def bars_fit(places, one, other, e):
    """Whether two bars of so many places fit for e."""
    check_places(places)
    check_bar(places, one)
    check_bar(places, other)
    check_number(e)
    return fit(places, one, other, e)


def check_two_heaps(places, one, other):
    """Raise BadPlaces for the places, then BadHeap for the one, for the other."""
    check_places(places)
    check_heap(places, one)
    check_heap(places, other)


def check_heaps_number(places, one, other, e):
    """Raise BadPlaces, BadHeap for the one, for the other, then BadNumber for e."""
    check_two_heaps(places, one, other)
    check_number(e)


def numbers_near(places, bars, others, e):
    """For each bar the list of the numbers of the other bars that fit it, None for one that needs no partner."""
    near = []
    for bar in bars:
        if is_lasting(places, bar, e):
            near.append([k for k, other in enumerate(others) if fit(places, bar, other, e)])
        else:
            near.append(None)
    return near


def searched_from(start, near, holders):
    """Where a search for a partner of a bar may end, None if nowhere, and from where each bar over there was met."""
    met = {}
    waiting = [start]
    while waiting:
        here = waiting.pop()
        for there in near[here]:
            if there not in met:
                met[there] = here
                # It may end at a bar that is free, or whose holder may be left without.
                if there not in holders or near[holders[there]] is None:
                    return there, met
                waiting.append(holders[there])
    return None, met


def give_partners(end, met, partners, holders):
    """Give each bar on the way of a search the bar over there that it met."""
    there = end
    while there is not None:
        here = met[there]
        given_up = partners.get(here)
        partners[here] = there
        holders[there] = here
        there = given_up


def find_partners(near, partners, holders):
    """Find a partner for each bar that needs one; [], or the numbers of bars that have too few together."""
    for start in range(len(near)):
        if near[start] is not None and start not in partners:
            end, met = searched_from(start, near, holders)
            if end is None:
                return [start] + [holders[there] for there in met]
            give_partners(end, met, partners, holders)
    return []


def matched_bars(places, one, other, e):
    """The list of the pairs of bars of a matching and None, or None and a lot against each matching."""
    ones, others = bars_in(one), bars_in(other)
    partners, holders = {}, {}
    stuck = find_partners(numbers_near(places, ones, others, e), partners, holders)
    if stuck:
        return None, (ONE, tuple(sorted(set([ones[k] for k in stuck]))))
    # Each of the ones that has a partner by now keeps one: only short ones of the others are left without again.
    stuck = find_partners(numbers_near(places, others, ones, e), holders, partners)
    if stuck:
        return None, (OTHER, tuple(sorted(set([others[k] for k in stuck]))))
    return [(ones[k], others[partners[k]]) for k in partners], None


def pairs_counted(pairs):
    """The tuple of some pairs of bars with how often each stands, ascending."""
    return piled([(first, second, 1) for first, second in pairs])


def matching_found(places, one, other, e):
    """A matching of what are known to be heaps, or None."""
    pairs, _ = matched_bars(places, one, other, e)
    if pairs is None:
        return None
    return pairs_counted(pairs)


def matching_of(places, one, other, e):
    """Any matching of two heaps for e, or None."""
    check_heaps_number(places, one, other, e)
    return matching_found(places, one, other, e)


def oftens(heap):
    """The dict of how often each stretch of a heap stands."""
    return {(a, b): often for a, b, often in heap}


def is_match(places, first_counts, second_counts, e, value):
    """Whether any value is a bar of each heap, that fit, with how often they are matched."""
    if not is_tuple_long(value, 3):
        return False
    first, second, often = value
    if not is_stretch_of(places, first) or not is_stretch_of(places, second):
        return False
    if first not in first_counts or second not in second_counts:
        return False
    return fit(places, first, second, e) and is_whole(often) and often > 0


def are_used_right(places, counts, used, e):
    """Whether bars are matched as often as they may be, and long ones as often as they stand."""
    for bar in counts:
        many = sum([often for one, often in used if one == bar])
        if many > counts[bar] or (many < counts[bar] and is_lasting(places, bar, e)):
            return False
    return True


def is_matching_of(places, one, other, e, value):
    """Whether any value is a matching of what are known to be heaps."""
    first_counts, second_counts = oftens(one), oftens(other)
    if not isinstance(value, tuple):
        return False
    if not all([is_match(places, first_counts, second_counts, e, match) for match in value]):
        return False
    if any([value[k][:2] >= value[k + 1][:2] for k in range(len(value) - 1)]):
        return False
    if not are_used_right(places, first_counts, [(first, often) for first, _, often in value], e):
        return False
    return are_used_right(places, second_counts, [(second, often) for _, second, often in value], e)


def is_matching(places, one, other, e, value):
    """Whether any value is a matching of two heaps for e."""
    check_heaps_number(places, one, other, e)
    return is_matching_of(places, one, other, e, value)


def lot_of(places, one, other, e):
    """Any lot against a matching of two heaps for e, or None."""
    check_heaps_number(places, one, other, e)
    _, lot = matched_bars(places, one, other, e)
    return lot


def are_unlike_bars(places, value):
    """Whether any value is a tuple of unlike stretches of so many places, ascending, not ()."""
    if not isinstance(value, tuple) or value == ():
        return False
    if not all([is_stretch_of(places, bar) for bar in value]):
        return False
    return all([value[k] < value[k + 1] for k in range(len(value) - 1)])


def fits_one(places, bars, other, e):
    """Whether a bar fits at least one of some bars."""
    return any([fit(places, bar, other, e) for bar in bars])


def is_lot_of(places, heap, against, e, bars):
    """Whether unlike stretches are long bars of a heap that stand more often than all that fit them."""
    counts = oftens(heap)
    if not all([bar in counts and is_lasting(places, bar, e) for bar in bars]):
        return False
    fitting = [often for a, b, often in against if fits_one(places, bars, (a, b), e)]
    return sum([counts[bar] for bar in bars]) > sum(fitting)


def is_lot(places, one, other, e, value):
    """Whether any value is a lot against a matching of two heaps for e."""
    check_heaps_number(places, one, other, e)
    if not is_tuple_long(value, 2):
        return False
    side, bars = value
    if not isinstance(side, str) or not are_unlike_bars(places, bars):
        return False
    if side == ONE:
        return is_lot_of(places, one, other, e, bars)
    return side == OTHER and is_lot_of(places, other, one, e, bars)


def lasting_bars(places, heap):
    """How many bars of a heap go on behind the last place."""
    return sum([often for a, b, often in heap if stays(places, (a, b))])


def least_found(places, one, other):
    """The least e for which there is a matching of what are known to be heaps, None if there is none."""
    if lasting_bars(places, one) != lasting_bars(places, other):
        return None
    e = 0
    while matching_found(places, one, other, e) is None:
        e += 1
    return e


def least_e(places, one, other):
    """The least e for which there is a matching of two heaps, None if there is none for any e."""
    check_two_heaps(places, one, other)
    return least_found(places, one, other)
