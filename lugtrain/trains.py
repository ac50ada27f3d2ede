"""Trains: wheels dragged by a handle, each through lugs that leave it some play."""

from lugtrain.errors import NoStand, NoTrain

MOST_PLAYS = 12


def is_train(plays):
    """Whether the plays tell a train."""
    return 1 <= len(plays) <= MOST_PLAYS and min(plays) >= 0


def refuse_no_train(plays):
    """Raise NoTrain where the plays tell no train."""
    if not is_train(plays):
        raise NoTrain("plays are 1 to 12 whole numbers, none below 0")


def keeps_plays(plays, handle, wheels):
    """Whether each wheel lies within its play of what is ahead of it."""
    ahead = handle
    for play, at in zip(plays, wheels):
        if abs(at - ahead) > play:
            return False
        ahead = at
    return True


def is_stand(plays, handle, wheels):
    """Whether the handle and the wheels keep the plays; NoTrain where these tell no train."""
    refuse_no_train(plays)
    # zip goes only as far as the shorter list, so the lengths are asked first.
    return len(wheels) == len(plays) and keeps_plays(plays, handle, wheels)


def refuse_no_stand(plays, handle, wheels):
    """Raise NoTrain, or behind that NoStand, where plays, handle and wheels are no stand of a train."""
    if not is_stand(plays, handle, wheels):
        raise NoStand("each wheel lies within its play of what is ahead of it")


def dragged(play, ahead, at):
    """The place of a wheel that lies at a place, once what is ahead has dragged it."""
    if at < ahead - play:
        return ahead - play
    if at > ahead + play:
        return ahead + play
    return at


def all_dragged(plays, wheels, place):
    """The wheels' places once the handle has gone to the place; nothing is refused."""
    places = []
    ahead = place
    for play, at in zip(plays, wheels):
        ahead = dragged(play, ahead, at)
        places.append(ahead)
    return places


def turned(plays, handle, wheels, place):
    """The wheels' places once the handle has gone to the place."""
    refuse_no_stand(plays, handle, wheels)
    return all_dragged(plays, wheels, place)


def run_of(plays, handle, wheels, row):
    """The wheels' places behind each place of the row, a list each."""
    refuse_no_stand(plays, handle, wheels)
    run = []
    places = wheels
    for place in row:
        # A stand that keeps the plays comes to such a one again, so it is asked but once.
        places = all_dragged(plays, places, place)
        run.append(places)
    return run
