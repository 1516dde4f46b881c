"""The bus and its round, from any village to any set of riders."""

from valleyvotes.groups import holds, one, without
from valleyvotes.land import beneath, beside, how_many_villages, road_between


def riders_over(riders, school, under):
    """The set of the riders that have a road on their way to the school, under being all beneath that road."""
    if holds(under, school):
        return without(riders, under)
    return riders & under


def roads_taken(valley, school, riders):
    """The roads on the ways between the school and the riders, each told by its village, as a set."""
    under = beneath(valley)
    return sum([one(v) for v in range(1, how_many_villages(valley)) if riders_over(riders, school, under[v]) > 0])


def round_length(valley, school, riders):
    """How long the round is."""
    taken = roads_taken(valley, school, riders)
    # The bus goes each road that it takes twice: once there, once back.
    return sum([2 * valley.roads[v] for v in range(1, how_many_villages(valley)) if holds(taken, v)])


def stops_from(valley, taken, v, came):
    """The villages of the round from v on, till it's back there and all beyond are gone; it came there from came."""
    stops = [v]
    for w in beside(valley, v):
        if w != came and holds(taken, road_between(v, w)):
            stops = stops + stops_from(valley, taken, w, v) + [v]
    return stops


def round_stops(valley):
    """The villages of the round, one after another."""
    taken = roads_taken(valley, valley.school, valley.riding)
    # No village is beside itself: where the school is, no road is left out.
    return stops_from(valley, taken, valley.school, valley.school)


def gone_at(valley, stops, k):
    """How far the bus has gone when it's at the k-th of the stops."""
    return sum([valley.roads[road_between(stops[j], stops[j + 1])] for j in range(k)])
