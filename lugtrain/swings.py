"""Swings: the pairs of turnings that a row takes back, and a wheel's whole way told by them."""

from lugtrain.errors import NoStand
from lugtrain.hung import hung_row, way_of
from lugtrain.returns import turning_of


def has_swing(pile):
    """Whether the two middle places of the topmost four are a swing."""
    if len(pile) < 4:
        return False
    lowest, lower, upper, topmost = pile[-4:]
    width = abs(upper - lower)
    return width <= abs(lower - lowest) and width <= abs(topmost - upper)


def swings_of(row):
    """The swings (low, high) in the order in which they are taken out, and the places that are left."""
    swings = []
    pile = []
    for place in turning_of(row):
        pile.append(place)
        while has_swing(pile):
            swings.append((min(pile[-3:-1]), max(pile[-3:-1])))
            del pile[-3:-1]
    return (swings, pile)


def wheel_way(depth, at, row):
    """How far a wheel at a place, hung on the handle alone, goes in all while the handle goes the row."""
    if not row or abs(at - row[0]) > depth:
        raise NoStand("the wheel lies within its depth of the row's first place")
    swings, left = swings_of(row)
    # Each swing drags the wheel to and fro, once the depth is used up on either side.
    taken_back = sum([max(0, high - low - 2 * depth) for low, high in swings])
    return 2 * taken_back + way_of([at] + hung_row(depth, at, left))
