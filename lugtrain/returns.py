"""What stands: where a row turns, and what later turnings have not wiped out."""


def moves_of(row):
    """The row's places, the same one several times one behind the other but once."""
    places = []
    for place in row:
        if not places or place != places[-1]:
            places.append(place)
    return places


def turning_of(row):
    """The first place, each place at which the row turns, and the last place."""
    places = moves_of(row)
    if len(places) < 2:
        return places
    turns = [
        here
        for ahead, here, behind in zip(places, places[1:], places[2:])
        if (ahead < here) == (behind < here)
    ]
    return [places[0]] + turns + [places[-1]]


def standing_of(row):
    """The places of the row that no later ones wipe out."""
    turns = turning_of(row)
    if len(turns) < 2:
        return turns
    # A later time takes the place of an earlier one, so each place keeps its last time.
    last_times = {place: when for when, place in enumerate(row)}
    least, greatest = min(row), max(row)
    at_greatest = last_times[least] < last_times[greatest]
    standing = [least, greatest] if at_greatest else [greatest, least]
    while standing[-1] != row[-1]:
        rest = row[last_times[standing[-1]] + 1:]
        standing.append(min(rest) if at_greatest else max(rest))
        at_greatest = not at_greatest
    return standing
