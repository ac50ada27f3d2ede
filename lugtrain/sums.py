"""Boxes put together and multiplied, and rows that leave all boxes alike."""

from lugtrain.boxes import returns_of, weights_of
from lugtrain.returns import standing_of
from lugtrain.switches import refuse_no_place, refuse_no_top


def added(top, one, other):
    """The weights of the box that always answers with the sum of the two boxes' answers."""
    # The switches of both in one box, those of the first one ahead, so that they are asked first.
    return weights_of(returns_of(top, one + other))


def multiplied(top, switches, by):
    """The weights of the box that always answers with the box's answers multiplied."""
    return weights_of(returns_of(top, [(low, high, weight * by) for low, high, weight in switches]))


def left_of(row):
    """The standing places of a row that begins at 0, from its last time there on."""
    places = [0] + row
    last = max([when for when, place in enumerate(places) if place == 0])
    return standing_of(places[last:])


def alike_rows(top, one, other):
    """Whether the two rows, each begun anew, leave the same switches on in every box of this top."""
    refuse_no_top(top)
    for place in one + other:
        refuse_no_place(top, place)
    # At 0 every switch is off, and from there on just the standing places tell which are on.
    return left_of(one) == left_of(other)
