"""Who pays what of the round, and what one adds to it."""

from valleyvotes.bus import riders_over, round_length
from valleyvotes.groups import holds, members, one, size, subsets, without
from valleyvotes.land import beneath, how_many_villages

# At most 10 share a road, and 2,520 is divided by each number up to 10: counted in parts of which so many make one,
# all that is paid is whole.
PARTS = 2520


def parts_paid(valley, v, riders):
    """What v pays if these ride, in parts."""
    under = beneath(valley)
    paid = 0
    for w in range(1, how_many_villages(valley)):
        sharing = riders_over(riders, valley.school, under[w])
        if holds(sharing, v):
            paid += 2 * valley.roads[w] * (PARTS // size(sharing))
    return paid


def parts_saved(valley, group):
    """By how much less a set of those that ride pay, together, than the round for them alone, in parts."""
    alone = round_length(valley, valley.school, group)
    paid = sum([parts_paid(valley, v, valley.riding) for v in members(group)])
    return PARTS * alone - paid


def greatest_divisor(a, b):
    """The greatest number that divides both."""
    left = a
    right = b
    while right > 0:
        rest = left % right
        left = right
        right = rest
    return left


def fraction(parts):
    """So many parts as a fraction: its upper and its lower number, which have nothing in common."""
    divisor = greatest_divisor(parts, PARTS)
    return [parts // divisor, PARTS // divisor]


def adds(valley, v, before):
    """What v adds to the round behind a set of others."""
    longer = round_length(valley, valley.school, before | one(v))
    return longer - round_length(valley, valley.school, before)


def orders(count):
    """How many orders there are of so many."""
    found = 1
    for k in range(2, count + 1):
        found = found * k
    return found


def added_in_all_orders(valley, v):
    """What v adds behind those before it, in all orders of those that ride, together."""
    others = without(valley.riding, one(v))
    added = 0
    for before in subsets(others):
        behind = without(others, before)
        # Just these are before v in as many orders as those before and those behind can have, each by themselves.
        added += orders(size(before)) * orders(size(behind)) * adds(valley, v, before)
    return added
