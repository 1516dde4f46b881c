"""The calls that change the valley (points 2 and 3).

Each takes a valley of its own to change and the call's numbers, and gives back what is answered.
"""

from valleyvotes.groups import holds, one, size, without
from valleyvotes.land import MOST_CHILDREN, MOST_VILLAGES, are_there, how_many_villages, is_many, is_road, is_there
from valleyvotes.refusals import EMPTY, FULL, NONE_THERE, NOT_THIS_ONE, SO_ALREADY, WRONG
from valleyvotes.serving import posts_with_schools
from valleyvotes.votes import chosen


def add_village(valley, given):
    """vw_village."""
    up = given[0]
    far = given[1]
    many = given[2]
    if not is_there(valley, up):
        return [NONE_THERE]
    if not is_road(far) or not is_many(many):
        return [WRONG]
    if how_many_villages(valley) == MOST_VILLAGES:
        return [FULL]
    valley.children.append(many)
    valley.ups.append(up)
    valley.roads.append(far)
    return [how_many_villages(valley) - 1]


def set_children(valley, given):
    """vw_many."""
    v = given[0]
    many = given[1]
    if not is_there(valley, v):
        return [NONE_THERE]
    if not is_many(many):
        return [WRONG]
    before = valley.children[v]
    valley.children[v] = many
    return [before]


def set_road(valley, given):
    """vw_road."""
    v = given[0]
    far = given[1]
    if not is_there(valley, v):
        return [NONE_THERE]
    if not is_road(far):
        return [WRONG]
    if v == 0:
        return [NOT_THIS_ONE]
    before = valley.roads[v]
    valley.roads[v] = far
    return [before]


def move_child(valley, given):
    """vw_move."""
    v = given[0]
    w = given[1]
    if not are_there(valley, v, w):
        return [NONE_THERE]
    if v == w:
        return [WRONG]
    if valley.children[v] == 0:
        return [EMPTY]
    if valley.children[w] == MOST_CHILDREN:
        return [FULL]
    valley.children[v] -= 1
    valley.children[w] += 1
    return [valley.children[v], valley.children[w]]


def elect_school(valley, given):
    """vw_elect."""
    if sum(valley.children) == 0:
        return [EMPTY]
    before = valley.school
    wanted = chosen(valley, valley.children)
    if wanted == before:
        return [SO_ALREADY]
    valley.school = wanted
    return [wanted, before]


def set_school(valley, given):
    """vw_school."""
    v = given[0]
    if not is_there(valley, v):
        return [NONE_THERE]
    before = valley.school
    if v == before:
        return [SO_ALREADY]
    valley.school = v
    return [before]


def switch_refusal(valley, group, given):
    """Why a village can't be put into a set or taken out of it, as a list of one number; an empty one if it can."""
    v = given[0]
    switch = given[1]
    if not is_there(valley, v):
        return [NONE_THERE]
    if switch > 1:
        return [WRONG]
    if holds(group, v) == (switch == 1):
        return [SO_ALREADY]
    return []


def switched(group, given):
    """The set with the village put in (1) or taken out (0)."""
    if given[1] == 1:
        return group | one(given[0])
    return without(group, one(given[0]))


def set_riding(valley, given):
    """vw_bus."""
    refusal = switch_refusal(valley, valley.riding, given)
    if len(refusal) > 0:
        return refusal
    valley.riding = switched(valley.riding, given)
    return [size(valley.riding)]


def set_post(valley, given):
    """vw_post."""
    refusal = switch_refusal(valley, valley.posts, given)
    if len(refusal) > 0:
        return refusal
    valley.posts = switched(valley.posts, given)
    return [size(valley.posts)]


def set_all_posts(valley, given):
    """vw_posts."""
    wanted = posts_with_schools(valley, given[0])
    if valley.posts == wanted:
        return [SO_ALREADY]
    valley.posts = wanted
    return [size(wanted), wanted]


CHANGES = {
    1: add_village,
    2: set_children,
    3: set_road,
    4: elect_school,
    5: set_school,
    6: set_riding,
    7: set_post,
    8: set_all_posts,
    15: move_child,
}


def is_change(number):
    """Whether the call with this number is one that changes the valley."""
    return number in CHANGES


def change(number, valley, given):
    """Changes the valley by the call with this number, and gives back what is answered."""
    return CHANGES[number](valley, given)
