"""The calls that only ask (point 4 and those that follow it).

Each takes the valley and the call's numbers, changes nothing, and gives back what is answered.
"""

from valleyvotes.bus import round_length
from valleyvotes.groups import size
from valleyvotes.land import are_there, distances, is_there
from valleyvotes.refusals import EMPTY, NONE_THERE
from valleyvotes.votes import all_ways, chosen, chosen_with_lie, least_ways, rather, unbeaten


def ask_chosen(valley, given):
    """vw_chosen."""
    if sum(valley.children) == 0:
        return [EMPTY]
    v = chosen(valley, valley.children)
    return [v, all_ways(valley, v)]


def ask_unbeaten(valley, given):
    """vw_unbeaten."""
    group = unbeaten(valley)
    return [size(group), group]


def ask_rather(valley, given):
    """vw_rather."""
    v = given[0]
    w = given[1]
    if not are_there(valley, v, w):
        return [NONE_THERE]
    return [rather(valley, v, w), rather(valley, w, v)]


def ask_ways(valley, given):
    """vw_ways."""
    v = given[0]
    if not is_there(valley, v):
        return [NONE_THERE]
    return [all_ways(valley, v)]


def ask_best(valley, given):
    """vw_best."""
    found = least_ways(valley)
    return [found[1], found[0]]


def ask_lie(valley, given):
    """vw_lie."""
    v = given[0]
    w = given[1]
    if not are_there(valley, v, w):
        return [NONE_THERE]
    if valley.children[v] == 0:
        return [EMPTY]
    row = distances(valley)[v]
    lied = chosen_with_lie(valley, v, w)
    honest = chosen(valley, valley.children)
    return [lied, row[lied], row[honest]]


def ask_round(valley, given):
    """vw_round."""
    return [round_length(valley), size(valley.riding)]


ASKS = {
    9: ask_chosen,
    10: ask_unbeaten,
    11: ask_rather,
    12: ask_ways,
    13: ask_best,
    14: ask_lie,
    16: ask_round,
}


def ask(number, valley, given):
    """What is answered to the call with this number."""
    return ASKS[number](valley, given)
