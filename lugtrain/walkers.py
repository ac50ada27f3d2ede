"""Walkers: trains that go, and take back what they did."""

from lugtrain.errors import NothingLeft
from lugtrain.trains import all_dragged, refuse_no_stand


def farther(ways, wheels, places):
    """How far each wheel has gone in all, once the wheels have gone on from where they lay to these places."""
    return [way + abs(place - at) for way, at, place in zip(ways, wheels, places)]


class Walker:
    """A train and its stand, with all stands that it came from."""

    def __init__(self, plays, handle, wheels):
        refuse_no_stand(plays, handle, wheels)
        self.plays = list(plays)
        # Each is (handle, wheels, ways); what lies here is never changed, only told as copies.
        self.states = [(handle, list(wheels), [0] * len(wheels))]

    def go(self, place):
        """The wheels' places once the handle has gone to the place."""
        handle, wheels, ways = self.states[-1]
        places = all_dragged(self.plays, wheels, place)
        self.states.append((place, places, farther(ways, wheels, places)))
        return self.wheels()

    def back(self):
        """What was gone last, and is not taken back yet, is taken back."""
        if len(self.states) == 1:
            raise NothingLeft("nothing was gone that is not taken back")
        self.states.pop()

    def handle(self):
        """The handle's place."""
        return self.states[-1][0]

    def wheels(self):
        """The wheels' places."""
        return list(self.states[-1][1])

    def ways(self):
        """Of each wheel how far it has gone in all."""
        return list(self.states[-1][2])
