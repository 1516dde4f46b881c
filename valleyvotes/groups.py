"""Sets of villages, each kept as it's told: one number, in which bit k stands for village k."""


def one(v):
    """The set of village v alone."""
    return 1 << v


def first_villages(count):
    """The set of all villages numbered below count."""
    return (1 << count) - 1


def holds(group, v):
    """Whether village v is in the set."""
    return (group >> v) & 1 == 1


def without(group, others):
    """The set less all that are in the other one."""
    return group & ~others


def size(group):
    """How many villages are in the set."""
    count = 0
    rest = group
    while rest > 0:
        # Taking one off clears the lowest bit that's set, so each step passes one village.
        rest = rest & (rest - 1)
        count += 1
    return count


def members(group):
    """The villages of the set, the lesser number first."""
    return [v for v in range(group.bit_length()) if holds(group, v)]


def subsets(group):
    """All sets of villages of this one, the empty one and itself with them."""
    return [part for part in range(group + 1) if without(part, group) == 0]
