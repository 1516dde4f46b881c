"""Which posts serve all villages."""

from valleyvotes.groups import first_villages, holds, members, one, size, without
from valleyvotes.land import distances, how_many_villages


def within(row, r):
    """The set of the villages that are no farther than r, by a row of how far each is."""
    return sum([one(w) for w in range(len(row)) if row[w] <= r])


def reaches(valley, r):
    """For each village the set of those that are no farther than r from it."""
    return [within(row, r) for row in distances(valley)]


def served_by(reach, posts):
    """The set of the villages that the posts serve, by what each village reaches."""
    seen = 0
    for v in members(posts):
        seen = seen | reach[v]
    return seen


def fewest_with(valley, r, needed):
    """The first of the sets that hold the needed villages and the fewest others and serve all within r."""
    reach = reaches(valley, r)
    groups = [needed]
    served = [served_by(reach, needed)]
    # The sets are made in the order in which the words put those alike: of two that differ first in village k,
    # the one without k stands ahead. So the greatest number is put in first, village 0 last.
    for k in range(len(reach) - 1, -1, -1):
        if not holds(needed, k):
            groups = groups + [group | one(k) for group in groups]
            served = served + [seen | reach[k] for seen in served]
    everyone = first_villages(len(reach))
    enough = [groups[k] for k in range(len(groups)) if served[k] == everyone]
    # Of sets of like size min answers the one that stands first.
    return min(enough, key=size)


def fewest_posts(valley, r):
    """The fewest posts within r."""
    return fewest_with(valley, r, 0)


def posts_with_schools(valley, r):
    """The posts with the school's within r."""
    return fewest_with(valley, r, one(valley.school))


def unserved(valley, r):
    """The set of the villages that are farther than r from every post."""
    everyone = first_villages(how_many_villages(valley))
    return without(everyone, served_by(reaches(valley, r), valley.posts))
