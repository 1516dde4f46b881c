"""Where the children would have the school."""

from valleyvotes.groups import holds, one
from valleyvotes.land import branches, distances, how_many_villages


def all_ways(valley, v):
    """All ways to v: of each village its children times how far it is."""
    row = distances(valley)[v]
    return sum([valley.children[u] * row[u] for u in range(len(row))])


def least_ways(valley):
    """The set of the best villages, and all ways to one of them."""
    ways = [all_ways(valley, v) for v in range(how_many_villages(valley))]
    least = min(ways)
    group = sum([one(v) for v in range(len(ways)) if ways[v] == least])
    return (group, least)


def nearer(children, row_v, row_w):
    """How many children live nearer to v than to w, by the rows of how far these are from each."""
    return sum([children[u] for u in range(len(children)) if row_v[u] < row_w[u]])


def rather(valley, v, w):
    """How many children would rather have the school at v than at w."""
    table = distances(valley)
    return nearer(valley.children, table[v], table[w])


def is_unbeaten(children, table, v):
    """Whether no village beats v."""
    for row in table:
        if nearer(children, row, table[v]) > nearer(children, table[v], row):
            return False
    return True


def unbeaten(valley):
    """The set of the villages that none beats."""
    table = distances(valley)
    return sum([one(v) for v in range(len(table)) if is_unbeaten(valley.children, table, v)])


def made_odd(children):
    """The children that are counted for the choice: with one more of village 0 if their number is even."""
    counted = list(children)
    if sum(counted) % 2 == 0:
        counted[0] += 1
    return counted


def living_in(children, group):
    """How many children live in the villages of a set."""
    return sum([children[v] for v in range(len(children)) if holds(group, v)])


def is_middle(valley, counted, v):
    """Whether no branch at v has more than half of the children that are counted."""
    for branch in branches(valley, v):
        if 2 * living_in(counted, branch) > sum(counted):
            return False
    return True


def chosen(valley, children):
    """The village that is chosen if so many children say of each village that they live there."""
    counted = made_odd(children)
    return [v for v in range(len(counted)) if is_middle(valley, counted, v)][0]


def chosen_with_lie(valley, v, w):
    """The village that were chosen if one child of v's told that it lived in w."""
    told = list(valley.children)
    told[v] -= 1
    told[w] += 1
    return chosen(valley, told)
