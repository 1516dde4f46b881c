"""The bus and its round."""

from valleyvotes.groups import holds, without
from valleyvotes.land import beneath, how_many_villages


def riders_over(valley, under):
    """The set of those that ride and have a road on their way to the school, under being all beneath that road."""
    if holds(under, valley.school):
        return without(valley.riding, under)
    return valley.riding & under


def round_length(valley):
    """How long the round is."""
    under = beneath(valley)
    length = 0
    for v in range(1, how_many_villages(valley)):
        # The bus takes a road just if one that rides has it on its way: once there, once back.
        if riders_over(valley, under[v]) > 0:
            length += 2 * valley.roads[v]
    return length
