"""Which posts serve all villages."""

from valleyvotes.groups import first_villages, one, size
from valleyvotes.land import distances


def within(row, r):
    """The set of the villages that are no farther than r, by a row of how far each is."""
    return sum([one(w) for w in range(len(row)) if row[w] <= r])


def reaches(valley, r):
    """For each village the set of those that are no farther than r from it."""
    return [within(row, r) for row in distances(valley)]


def fewest_with_one(valley, r, v):
    """The first of the sets with a post in v and the fewest others that serve all within r."""
    reach = reaches(valley, r)
    groups = [one(v)]
    served = [reach[v]]
    # The sets are made in the order in which the words put those alike: of two that differ first in village k,
    # the one without k stands ahead. So the greatest number is put in first, village 0 last.
    for k in range(len(reach) - 1, -1, -1):
        if k != v:
            groups = groups + [group | one(k) for group in groups]
            served = served + [seen | reach[k] for seen in served]
    everyone = first_villages(len(reach))
    enough = [groups[k] for k in range(len(groups)) if served[k] == everyone]
    # Of sets of like size min answers the one that stands first.
    return min(enough, key=size)


def posts_with_schools(valley, r):
    """The posts with the school's within r."""
    return fewest_with_one(valley, r, valley.school)
