"""Slow switches, and boxes that answer with the weights of those that are on."""

from lugtrain.errors import NoBox, NoPlace, NoSwitch

MOST_TOP = 16


def refuse_no_top(top):
    """Raise NoBox where no box has this top."""
    if not 1 <= top <= MOST_TOP:
        raise NoBox("a top is a whole number from 1 to 16")


def refuse_no_place(top, place):
    """Raise NoPlace where the place is none of a box of this top."""
    if not 0 <= place <= top:
        raise NoPlace("the handle goes over the places from 0 to the top")


class Switch:
    """A switch that goes on at high, off at low, and stays as it is between."""

    def __init__(self, low, high):
        if low < 0 or high <= low:
            raise NoSwitch("a switch has a low from 0 on, and a high above it")
        self.low = low
        self.high = high
        self.is_on = False

    def turn(self, place):
        """The handle goes to the place, whatever this is."""
        if place >= self.high:
            self.is_on = True
        elif place <= self.low:
            self.is_on = False

    def on(self):
        """Whether it is on."""
        return self.is_on


def switch_within(top, low, high):
    """A switch of a box of this top."""
    if high > top:
        raise NoSwitch("a switch of a box has a high no more than the top")
    return Switch(low, high)


class Box:
    """Switches over the places from 0 to top."""

    def __init__(self, top, switches):
        refuse_no_top(top)
        self.top = top
        self.switches = [switch_within(top, low, high) for low, high, weight in switches]
        self.weights = [weight for low, high, weight in switches]
        self.at = 0

    def turn(self, place):
        """The answer once the handle has gone to the place."""
        refuse_no_place(self.top, place)
        self.at = place
        for switch in self.switches:
            switch.turn(place)
        return self.answer()

    def answer(self):
        """The sum of the weights of the switches that are on."""
        return sum([self.weights[number] for number in self.lit()])

    def lit(self):
        """The numbers of the switches that are on, rising."""
        return [number for number, switch in enumerate(self.switches) if switch.on()]

    def place(self):
        """Where the handle is."""
        return self.at

    def anew(self):
        """All is as at first."""
        # No low lies below 0, so at 0 every switch goes off.
        self.turn(0)
