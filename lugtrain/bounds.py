"""Within bounds: how far all can come where the handle is kept between two places."""

from lugtrain.errors import NoStand, TooMany
from lugtrain.hung import depths_of
from lugtrain.trains import all_dragged, refuse_no_stand

MOST_STANDS = 500


def refuse_no_bounds(plays, handle, wheels, low, high):
    """Raise NoTrain, behind that NoStand of no stand, behind that NoStand of a handle that lies not within."""
    refuse_no_stand(plays, handle, wheels)
    # Nothing lies within where low is more than high.
    if not low <= handle <= high:
        raise NoStand("the handle lies from low to high")


def ranges_of(plays, handle, wheels, low, high):
    """Of each wheel the least and the greatest place to which it can come."""
    refuse_no_bounds(plays, handle, wheels, low, high)
    # Each wheel goes as if it hung on the handle alone, so none needs to be walked.
    return [(min(at, low + depth), max(at, high - depth)) for depth, at in zip(depths_of(plays), wheels)]


def stands_beside(plays, handle, wheels, low, high):
    """The stands to which one step of the handle within the bounds leads."""
    return [
        (place, tuple(all_dragged(plays, wheels, place)))
        for place in (handle - 1, handle + 1)
        if low <= place <= high
    ]


def stands_within(plays, handle, wheels, low, high):
    """All unlike stands that can come, rising; TooMany where there are more than 500."""
    refuse_no_bounds(plays, handle, wheels, low, high)
    first = (handle, tuple(wheels))
    found = {first: True}
    waiting = [first]
    # A far going leads to where its single steps lead, so these are enough.
    while waiting:
        at, places = waiting.pop()
        for stand in stands_beside(plays, at, places, low, high):
            if stand not in found:
                found[stand] = True
                waiting.append(stand)
        if len(found) > MOST_STANDS:
            raise TooMany("there are more than 500 stands")
    return sorted(found)
