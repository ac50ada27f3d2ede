"""Grabs: any piece of a train moved, the pieces on both sides of it being dragged."""

from lugtrain.errors import NoPiece
from lugtrain.trains import all_dragged, refuse_no_stand


def refuse_no_piece(plays, piece):
    """Raise NoPiece where the number is neither the handle's, -1, nor that of a wheel."""
    if not -1 <= piece < len(plays):
        raise NoPiece("a piece is -1, the handle, or the number of a wheel")


def moved(plays, handle, wheels, piece, place):
    """The handle and the wheels once the piece has been moved to the place; nothing is refused."""
    pieces = [handle] + wheels
    # As many pieces lie ahead of it as there are plays up to its own, each of which drags the one ahead.
    many = piece + 1
    ahead = all_dragged(plays[:many][::-1], pieces[:many][::-1], place)[::-1]
    behind = all_dragged(plays[many:], pieces[many + 1:], place)
    end, *places = ahead + [place] + behind
    return (end, places)


def grabbed(plays, handle, wheels, piece, place):
    """The handle and the wheels once the piece has been grabbed and moved to the place."""
    return grabs_of(plays, handle, wheels, [(piece, place)])[0]


def grabs_of(plays, handle, wheels, row):
    """The handle and the wheels behind each grab (piece, place) of the row."""
    refuse_no_stand(plays, handle, wheels)
    for piece, place in row:
        refuse_no_piece(plays, piece)
    stands = []
    for piece, place in row:
        handle, wheels = moved(plays, handle, wheels, piece, place)
        stands.append((handle, wheels))
    return stands
