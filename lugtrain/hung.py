"""Wheels by themselves: each goes as if it hung on the handle alone, with its depth for its play."""

from lugtrain.trains import dragged, refuse_no_train


def depths_of(plays):
    """Of each wheel the sum of its play and of all plays ahead of it."""
    refuse_no_train(plays)
    depths = []
    depth = 0
    for play in plays:
        depth += play
        depths.append(depth)
    return depths


def hung_row(depth, at, row):
    """Where a wheel that hangs on the handle alone lies behind each place of the row."""
    places = []
    for place in row:
        at = dragged(depth, place, at)
        places.append(at)
    return places


def way_of(places):
    """The sum of how far each place lies from the one ahead of it."""
    return sum([abs(here - ahead) for ahead, here in zip(places, places[1:])])
