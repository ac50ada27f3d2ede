"""What the tests share: rows and stands to ask with, and plain reckonings by the document's words."""

import itertools

SIXTY = 10 ** 60 - 1
FORTY = 10 ** 40 - 1
# A number as it is written, for patterns.
NUMBER = "(?:0|-?[1-9][0-9]{0,39})"
# Signs by which a text can be spoilt: each figure, those that stand in texts, and some others.
SIGNS = "0123456789- \n\t+.,:_aAtpxsye~!"
NO_TOPS = (-SIXTY, -16, -1, 0, 17, 18, SIXTY)
NO_TRAINS = ([], [-1], [3, -1], [-1, 3], [0] * 13, [-SIXTY], [5] * 12 + [-1])
# Handles and wheels that are no stand of the plays [3, 2].
NO_STANDS = (
    (0, []), (0, [0]), (0, [0, 0, 0]), (0, [4, 4]), (0, [-4, -4]), (0, [0, 3]), (0, [0, -3]), (9, [0, 0]),
    (SIXTY, [0, 0]), (0, [3, -SIXTY]),
)


def all_rows(places, most):
    """Every row of these places, of none up to most of them."""
    for many in range(most + 1):
        for row in itertools.product(places, repeat=many):
            yield list(row)


def all_wheels(plays, handle):
    """Every list of wheels that keeps the plays with the handle there."""
    if not plays:
        yield []
        return
    for at in range(handle - plays[0], handle + plays[0] + 1):
        for behind in all_wheels(plays[1:], at):
            yield [at] + behind


def mixed(seed, many, low, high):
    """A list of many places from low to high, in a disorder that is the same each time."""
    state = seed
    places = []
    for step in range(many):
        drawn = 0
        # Six times forty bits, so that numbers of sixty figures lie all over the width.
        for piece in range(6):
            state = (state * 6364136223846793005 + 1442695040888963407) & (2 ** 64 - 1)
            drawn = drawn << 40 | state >> 24
        places.append(low + drawn % (high - low + 1))
    return places


def shrinking(many, start=0):
    """A row that goes to and fro, each time less far, so that all of it stands."""
    return [start + (many - step) * (1 if step % 2 else -1) for step in range(many)]


def growing(many):
    """A row that goes to and fro, each time farther, so that just its two last places stand."""
    return shrinking(many)[::-1]


LONG_ROWS = [
    mixed(1, 2000, -1000, 1000),
    mixed(2, 2000, -3, 3),
    mixed(3, 2000, 0, 1),
    mixed(4, 1999, -SIXTY, SIXTY),
    list(range(2000)),
    list(range(2000, 0, -1)),
    shrinking(2000),
    shrinking(1999),
    growing(2000),
    growing(1999),
    [7] * 2000,
    [1, 2] * 1000,
    [2, 2, 1, 1] * 500,
    shrinking(1000) + growing(1000),
    growing(1000) + shrinking(1000),
]


def plain_turning(row):
    """The turning places, each time of the row asked by itself."""
    told = []
    for when, here in enumerate(row):
        if when > 0 and row[when - 1] == here:
            continue
        ahead = [place for place in row[:when] if place != here][-1:]
        behind = [place for place in row[when:] if place != here][:1]
        if when == 0:
            told.append(here)
        elif set(row[when:]) == {here}:
            told.append(here)
        elif ahead < [here] > behind or ahead > [here] < behind:
            told.append(here)
    return told


def last_time(row, place):
    """When the row is at the place for the last time."""
    return max(when for when in range(len(row)) if row[when] == place)


def plain_standing(row):
    """The standing places, by sorting and by walking the row for each."""
    if len(set(row)) < 2:
        return row[:1]
    ends = [sorted(row)[0], sorted(row)[-1]]
    told = sorted(ends, key=lambda place: last_time(row, place))
    while last_time(row, told[-1]) != len(row) - 1:
        behind = row[last_time(row, told[-1]) + 1:]
        told_a_greatest = told[-1] > told[-2]
        told.append(sorted(behind)[0 if told_a_greatest else -1])
    return told


def plain_depths(plays):
    """Of each wheel's number its depth, of -1 the handle's, which is 0."""
    return {number: sum(plays[:number + 1]) for number in range(-1, len(plays))}


def plain_pieces(handle, wheels):
    """Of each wheel's number its place, of -1 the handle's."""
    return {-1: handle, **dict(enumerate(wheels))}


def plain_way(places):
    """How far it is in all from each place to the next one."""
    return sum(max(places[at], places[at - 1]) - min(places[at], places[at - 1]) for at in range(1, len(places)))


def plain_follows(plays, end, goal, ahead, must):
    """Whether the must can be the next one behind the must ahead, by the words of the document."""
    depths, goals = plain_depths(plays), plain_pieces(end, goal)
    place = goals[ahead[0]] + depths[ahead[0]] * ahead[1]
    if ahead[1] == 1:
        return must[1] == -1 and place - depths[must[0]] > goals[must[0]]
    return must[1] == 1 and place + depths[must[0]] < goals[must[0]]


def a_stand(seed, plays, low, high):
    """A handle within low and high and wheels that keep the plays, in disorder."""
    handle = mixed(seed, 1, low, high)[0]
    wheels = []
    ahead = handle
    for number, play in enumerate(plays):
        # At the ends of its play just as often as anywhere.
        free = mixed(seed * 31 + number, 2, -play, play)
        ahead += [free[1], play, -play, free[1]][free[0] % 4]
        wheels.append(ahead)
    return handle, wheels


def plain_grabbed(plays, handle, wheels, piece, place):
    """The handle and the wheels once the piece lies at the place, by the words of the document."""
    pieces = plain_pieces(handle, wheels)
    pieces[piece] = place
    for number in range(piece + 1, len(plays)):
        play, ahead = plays[number], pieces[number - 1]
        pieces[number] = max(ahead - play, min(ahead + play, pieces[number]))
    for number in range(piece - 1, -2, -1):
        play, behind = plays[number + 1], pieces[number + 1]
        pieces[number] = max(behind - play, min(behind + play, pieces[number]))
    return pieces[-1], [pieces[number] for number in range(len(plays))]


def steps_to_all(plays, handle, wheels, most):
    """Of each stand the least number of steps, up or down by 1, by which it can be come to, up to most of them."""
    first = (handle, tuple(wheels))
    steps = {first: 0}
    edge = [first]
    for many in range(1, most + 1):
        beyond = []
        for at, places in edge:
            for place in (at - 1, at + 1):
                stand = (place, tuple(plain_grabbed(plays, at, list(places), -1, place)[1]))
                if stand not in steps:
                    steps[stand] = many
                    beyond.append(stand)
        edge = beyond
    return steps


def plain_on(low, high, row):
    """Whether a switch is on behind the row: by the last place that is at high or above, or at low or below."""
    telling = [place for place in [0] + row if place <= low or place >= high]
    return telling[-1] >= high


def plain_lit(switches, row):
    """The numbers of the switches that are on behind the row."""
    return [number for number, (low, high, weight) in enumerate(switches) if plain_on(low, high, row)]


def plain_answer(switches, row):
    """The sum of the weights of these."""
    return sum(switches[number][2] for number in plain_lit(switches, row))


def pairs_of(top):
    """Every low and high that a switch of a box of this top can have."""
    return [(low, high) for high in range(1, top + 1) for low in range(high)]


def weighed(pairs):
    """Switches of these, the weights such that an answer tells just which are on."""
    return [(low, high, 2 ** number) for number, (low, high) in enumerate(pairs)]


def drawn_switches(seed, top, many, most):
    """Many switches of a box of this top, the weights from -most to most, in disorder; some of one low and high."""
    pairs = pairs_of(top)
    numbers = mixed(seed, many, 0, len(pairs) - 1)
    weights = mixed(seed + 1, many, -most, most)
    return [(*pairs[number], weight) for number, weight in zip(numbers, weights)]


def spoilt(text, signs):
    """The text without one sign, with one sign more, with another one, with two neighbours swapped: each."""
    for at in range(len(text) + 1):
        for sign in signs:
            yield text[:at] + sign + text[at:]
    for at in range(len(text)):
        yield text[:at] + text[at + 1:]
        for sign in signs:
            if sign != text[at]:
                yield text[:at] + sign + text[at + 1:]
    for at in range(len(text) - 1):
        yield text[:at] + text[at + 1] + text[at] + text[at + 2:]


def refusal_of(asked, *things):
    """The class of the error with which it is refused, None where it is not."""
    try:
        asked(*things)
    except ValueError as error:
        return error.__class__
    return None


def is_whole(thing):
    """Whether it is a whole number, and no truth."""
    return isinstance(thing, int) and not isinstance(thing, bool)


def is_places(thing):
    """Whether it is a list, and of whole numbers alone."""
    return thing.__class__ is list and all(is_whole(place) for place in thing)


def is_switches(thing):
    """Whether it is a list of tuples of three whole numbers."""
    if thing.__class__ is not list:
        return False
    return all(one.__class__ is tuple and len(one) == 3 and is_places(list(one)) for one in thing)
