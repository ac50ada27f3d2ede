"""Errands: the least turning from one stand to another one, and the paper that tells why none is less."""

from lugtrain.hung import way_of
from lugtrain.papers import is_beyond, must_place, refuse_no_errand, side_to_go


def first_musts(handle, wheels, end, goal):
    """The first must in a list, of the last wheel that is otherwise, else of the handle; none where nothing is."""
    for wheel in range(len(wheels) - 1, -2, -1):
        side = side_to_go(handle, wheels, end, goal, wheel)
        if side != 0:
            return [(wheel, side)]
    return []


def paper_of(plays, handle, wheels, end, goal):
    """The told paper of the errand."""
    refuse_no_errand(plays, handle, wheels, end, goal)
    paper = first_musts(handle, wheels, end, goal)
    if not paper:
        return paper
    ahead = paper[0]
    # Down to the handle, which bears the number -1.
    for wheel in range(ahead[0] - 1, -2, -1):
        if is_beyond(plays, end, goal, ahead, wheel):
            ahead = (wheel, -ahead[1])
            paper.append(ahead)
    return paper


def least_row(plays, handle, wheels, end, goal):
    """The told row of the errand; no row that does it is shorter."""
    paper = paper_of(plays, handle, wheels, end, goal)
    return [must_place(plays, end, goal, must) for must in paper]


def least_of(plays, handle, wheels, end, goal):
    """The least way of a row that does the errand."""
    return way_of([handle] + least_row(plays, handle, wheels, end, goal))
