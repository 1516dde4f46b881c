"""The calls that only ask how the valley stands (points 4 to 6).

Each takes the valley and the call's numbers, changes nothing, and gives back what is answered.
"""

from valleyvotes.bus import gone_at, round_length, round_stops
from valleyvotes.groups import first_villages, holds, members, one, size, without
from valleyvotes.land import are_there, distances, how_many_villages, is_there
from valleyvotes.refusals import EMPTY, FULL, NONE_THERE, NOT_RIDING, NOT_THIS_ONE, SO_ALREADY, WRONG
from valleyvotes.serving import fewest_posts, posts_with_schools, unserved
from valleyvotes.shares import added_in_all_orders, adds, fraction, orders, parts_paid, parts_saved
from valleyvotes.votes import all_ways, chosen, chosen_with_lie, least_ways, rather, unbeaten

# Of more that ride the orders are not gone through.
MOST_IN_ORDERS = 5


def ask_chosen(valley, given):
    """vw_chosen."""
    if sum(valley.children) == 0:
        return [EMPTY]
    v = chosen(valley, valley.children)
    return [v, all_ways(valley, v)]


def ask_unbeaten(valley, given):
    """vw_unbeaten."""
    group = unbeaten(valley)
    return [size(group), group]


def ask_rather(valley, given):
    """vw_rather."""
    v = given[0]
    w = given[1]
    if not are_there(valley, v, w):
        return [NONE_THERE]
    return [rather(valley, v, w), rather(valley, w, v)]


def ask_ways(valley, given):
    """vw_ways."""
    v = given[0]
    if not is_there(valley, v):
        return [NONE_THERE]
    return [all_ways(valley, v)]


def ask_best(valley, given):
    """vw_best."""
    found = least_ways(valley)
    return [found[1], found[0]]


def ask_lie(valley, given):
    """vw_lie."""
    v = given[0]
    w = given[1]
    if not are_there(valley, v, w):
        return [NONE_THERE]
    if valley.children[v] == 0:
        return [EMPTY]
    row = distances(valley)[v]
    lied = chosen_with_lie(valley, v, w)
    honest = chosen(valley, valley.children)
    return [lied, row[lied], row[honest]]


def ask_round(valley, given):
    """vw_round."""
    return [round_length(valley, valley.school, valley.riding), size(valley.riding)]


def ask_from(valley, given):
    """vw_from."""
    a = given[0]
    if not is_there(valley, a):
        return [NONE_THERE]
    return [round_length(valley, a, valley.riding)]


def ask_stop(valley, given):
    """vw_stop."""
    k = given[0]
    stops = round_stops(valley)
    if k >= len(stops):
        return [NOT_THIS_ONE]
    return [stops[k], gone_at(valley, stops, k)]


def ask_pays(valley, given):
    """vw_pays."""
    v = given[0]
    if not is_there(valley, v):
        return [NONE_THERE]
    if not holds(valley.riding, v):
        return [NOT_RIDING]
    return fraction(parts_paid(valley, v, valley.riding))


def ask_saves(valley, given):
    """vw_saves."""
    group = given[0]
    if without(group, first_villages(how_many_villages(valley))) > 0:
        return [WRONG]
    if without(group, valley.riding) > 0:
        return [NOT_RIDING]
    return fraction(parts_saved(valley, group))


def ask_mean(valley, given):
    """vw_mean."""
    v = given[0]
    if not is_there(valley, v):
        return [NONE_THERE]
    if not holds(valley.riding, v):
        return [NOT_RIDING]
    if size(valley.riding) > MOST_IN_ORDERS:
        return [FULL]
    return [added_in_all_orders(valley, v), orders(size(valley.riding))]


def ask_joins(valley, given):
    """vw_joins."""
    v = given[0]
    if not is_there(valley, v):
        return [NONE_THERE]
    if holds(valley.riding, v):
        return [SO_ALREADY]
    return [adds(valley, v, valley.riding), parts_paid(valley, v, valley.riding | one(v))]


def ask_far(valley, given):
    """vw_far."""
    v = given[0]
    if not is_there(valley, v):
        return [NONE_THERE]
    return [distances(valley)[valley.school][v]]


def ask_farthest(valley, given):
    """vw_farthest."""
    row = distances(valley)[valley.school]
    homes = [v for v in range(len(row)) if valley.children[v] > 0]
    if len(homes) == 0:
        return [EMPTY]
    far = max([row[v] for v in homes])
    return [min([v for v in homes if row[v] == far]), far]


def ask_fewest(valley, given):
    """vw_fewest."""
    group = fewest_posts(valley, given[0])
    return [size(group), group]


def ask_with(valley, given):
    """vw_with."""
    group = posts_with_schools(valley, given[0])
    return [size(group), group]


def ask_within(valley, given):
    """vw_within."""
    group = unserved(valley, given[0])
    return [1 if group == 0 else 0, group]


def ask_near(valley, given):
    """vw_near."""
    if valley.posts == 0:
        return [EMPTY]
    row = distances(valley)[valley.school]
    far = min([row[v] for v in members(valley.posts)])
    return [min([v for v in members(valley.posts) if row[v] == far]), far]


def ask_look(valley, given):
    """vw_look."""
    v = given[0]
    if not is_there(valley, v):
        return [NONE_THERE]
    rides = 1 if holds(valley.riding, v) else 0
    post = 1 if holds(valley.posts, v) else 0
    return [valley.children[v], valley.ups[v], valley.roads[v], rides, post]


def ask_sums(valley, given):
    """vw_sums."""
    return [sum(valley.children), valley.school, valley.riding, valley.posts]


ASKS = {
    9: ask_chosen,
    10: ask_unbeaten,
    11: ask_rather,
    12: ask_ways,
    13: ask_best,
    14: ask_lie,
    16: ask_round,
    17: ask_from,
    18: ask_stop,
    19: ask_pays,
    20: ask_saves,
    21: ask_mean,
    22: ask_joins,
    23: ask_far,
    24: ask_farthest,
    25: ask_fewest,
    26: ask_with,
    27: ask_within,
    28: ask_near,
    29: ask_look,
    30: ask_sums,
}


def ask(number, valley, given):
    """What is answered to the call with this number."""
    return ASKS[number](valley, given)
