"""Rounds: a train led by several stands, in their order or in the best one."""

from lugtrain.errands import least_of
from lugtrain.trains import refuse_no_stand


def refuse_no_round(plays, handle, wheels, stands):
    """Raise NoTrain, behind that NoStand of the first stand, behind that NoStand of the others in their order."""
    refuse_no_stand(plays, handle, wheels)
    for end, goal in stands:
        refuse_no_stand(plays, end, goal)


def round_way(plays, handle, wheels, stands):
    """The least way of a row by which the train comes to these stands in their order."""
    refuse_no_round(plays, handle, wheels, stands)
    # A stand tells all that counts from then on, so each errand can be at its least by itself.
    legs = list(zip([(handle, wheels)] + stands, stands))
    return sum([least_of(plays, at, places, end, goal) for (at, places), (end, goal) in legs])


def ways_between(plays, handle, wheels, stands):
    """The least ways to each of the stands: from each, and behind these from the first one, so found by -1."""
    return [
        [least_of(plays, at, places, end, goal) for end, goal in stands]
        for at, places in stands + [(handle, wheels)]
    ]


def best_from(ways, last, numbers):
    """The least way from the last stand by those of these numbers, and their order, the first one of several."""
    if not numbers:
        return (0, [])
    rounds = []
    for number in numbers:
        way, order = best_from(ways, number, [other for other in numbers if other != number])
        rounds.append((ways[last][number] + way, [number] + order))
    return min(rounds)


def best_round(plays, handle, wheels, stands):
    """The order, by the stands' numbers, in which the round has the least way, and this way."""
    refuse_no_round(plays, handle, wheels, stands)
    ways = ways_between(plays, handle, wheels, stands)
    way, order = best_from(ways, -1, list(range(len(stands))))
    return (order, way)
