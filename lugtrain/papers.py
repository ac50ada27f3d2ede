"""Papers: musts that each row doing an errand must meet in order, so that none is shorter than they weigh."""

from lugtrain.errors import NoPaper
from lugtrain.hung import depths_of, way_of
from lugtrain.trains import refuse_no_stand


def refuse_no_errand(plays, handle, wheels, end, goal):
    """Raise NoTrain, behind that NoStand of the first stand, behind that NoStand of the goal."""
    refuse_no_stand(plays, handle, wheels)
    refuse_no_stand(plays, end, goal)


def pieces_of(handle, wheels):
    """The wheels' things and behind them the handle's, which is so found by its number, -1."""
    return wheels + [handle]


def must_place(plays, end, goal, must):
    """The place to which, or beyond it on the must's side, the handle must come."""
    refuse_no_stand(plays, end, goal)
    wheel, side = must
    return pieces_of(end, goal)[wheel] + side * pieces_of(0, depths_of(plays))[wheel]


def is_must(plays, must):
    """Whether it names a wheel of the train or the handle, and a side."""
    wheel, side = must
    return -1 <= wheel < len(plays) and side in (1, -1)


def side_to_go(handle, wheels, end, goal, wheel):
    """The side to which the wheel, or the handle, must move: 1, -1, or 0 where it need not."""
    first = pieces_of(handle, wheels)[wheel]
    last = pieces_of(end, goal)[wheel]
    if first == last:
        return 0
    return 1 if first < last else -1


def can_be_first(handle, wheels, end, goal, must):
    """Whether the must's wheel, or the handle, must move to the must's side."""
    wheel, side = must
    return side == side_to_go(handle, wheels, end, goal, wheel)


def is_beyond(plays, end, goal, ahead, wheel):
    """Whether the must ahead leaves the wheel, or the handle, beyond its goal, however little it is dragged."""
    depth = pieces_of(0, depths_of(plays))[wheel]
    last = pieces_of(end, goal)[wheel]
    # Times the side, so that up and down are asked alike.
    return (must_place(plays, end, goal, ahead) - last) * ahead[1] > depth


def can_follow(plays, end, goal, ahead, must):
    """Whether a must can be the next one behind the must ahead."""
    wheel, side = must
    return side == -ahead[1] and is_beyond(plays, end, goal, ahead, wheel)


def is_paper(plays, handle, wheels, end, goal, thing):
    """Whether the thing is a paper for the errand."""
    refuse_no_errand(plays, handle, wheels, end, goal)
    if not all([is_must(plays, must) for must in thing]):
        return False
    if thing and not can_be_first(handle, wheels, end, goal, thing[0]):
        return False
    return all([can_follow(plays, end, goal, ahead, must) for ahead, must in zip(thing, thing[1:])])


def weight_of(plays, handle, wheels, end, goal, thing):
    """What a paper weighs: the way from the handle's first place by its musts' places."""
    if not is_paper(plays, handle, wheels, end, goal, thing):
        raise NoPaper("each must of a paper has to be met behind the one ahead of it")
    return way_of([handle] + [must_place(plays, end, goal, must) for must in thing])
