"""The valley as it stands, and what its roads say of it."""

from valleyvotes.groups import first_villages, one, without

MOST_VILLAGES = 10
MOST_CHILDREN = 100
SHORTEST_ROAD = 1
LONGEST_ROAD = 1000


class Valley:
    """All that a change may alter, and nothing that follows from it."""

    def __init__(self, many):
        self.children = [many]
        # Village 0 has no up and no road; the zeros keep the three lists even.
        self.ups = [0]
        self.roads = [0]
        self.school = 0
        self.riding = 0
        self.posts = 0


def copy_of(valley):
    """Another valley that stands just like this one."""
    twin = Valley(0)
    twin.children = list(valley.children)
    twin.ups = list(valley.ups)
    twin.roads = list(valley.roads)
    twin.school = valley.school
    twin.riding = valley.riding
    twin.posts = valley.posts
    return twin


def how_many_villages(valley):
    """How many villages there are."""
    return len(valley.children)


def is_there(valley, v):
    """Whether there is a village v."""
    return v < how_many_villages(valley)


def are_there(valley, v, w):
    """Whether there are both villages."""
    return is_there(valley, v) and is_there(valley, w)


def is_many(many):
    """Whether a village may have so many children."""
    return many <= MOST_CHILDREN


def is_road(far):
    """Whether a road may be so long."""
    return far >= SHORTEST_ROAD and far <= LONGEST_ROAD


def road_between(v, w):
    """The village by which the road between two beside each other is told."""
    # An up was there before: it has the lesser number.
    return max(v, w)


def are_beside(valley, v, w):
    """Whether a road joins the two villages."""
    return v != w and valley.ups[road_between(v, w)] == min(v, w)


def beside(valley, v):
    """The villages beside v, the lesser number first."""
    return [w for w in range(how_many_villages(valley)) if are_beside(valley, v, w)]


def distances(valley):
    """How far each village is from each: a row for each one."""
    table = [[0]]
    for v in range(1, how_many_villages(valley)):
        # From v every way to an earlier village goes over its up, whose row tells all of those by now.
        row = [far + valley.roads[v] for far in table[valley.ups[v]]]
        for w in range(v):
            table[w].append(row[w])
        row.append(0)
        table.append(row)
    return table


def beneath(valley):
    """For each village the set of those whose way to village 0 goes over it, with itself."""
    count = how_many_villages(valley)
    under = [one(v) for v in range(count)]
    # An up has the lesser number: from the last one on, each set is whole before it's put to its up's.
    for v in range(count - 1, 0, -1):
        up = valley.ups[v]
        under[up] = under[up] | under[v]
    return under


def branches(valley, v):
    """The branches at v, each as a set."""
    count = how_many_villages(valley)
    under = beneath(valley)
    found = [under[w] for w in range(1, count) if valley.ups[w] == v]
    if v > 0:
        found.append(without(first_villages(count), under[v]))
    return found
