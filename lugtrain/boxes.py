"""Boxes known from outside: a box's first returns tell the weights by which it answers every row."""

from lugtrain.errors import NoTable
from lugtrain.switches import MOST_TOP, Box, refuse_no_top


def first_return(box, high, low):
    """The answer where the handle goes from 0 up to high and then down to low."""
    box.anew()
    box.turn(high)
    return box.turn(low)


def returns_of(top, switches):
    """The box's first returns: for each place a list, of the answers down from there to each place from 0 on."""
    box = Box(top, switches)
    return [[first_return(box, high, low) for low in range(high + 1)] for high in range(top + 1)]


def is_table(table):
    """Whether it has the form of first returns, and each of its lists begins with 0."""
    if not 2 <= len(table) <= MOST_TOP + 1:
        return False
    return all([len(answers) == high + 1 and answers[0] == 0 for high, answers in enumerate(table)])


def weight_at(table, low, high):
    """The weight of all switches of this low and high together."""
    here = table[high]
    ahead = table[high - 1]
    # Behind a rise to one less than high there is no place above that: all that can be on is on there.
    return here[low + 1] - here[low] - ahead[min(low + 1, high - 1)] + ahead[low]


def weights_of(table):
    """The switches with weights other than 0, no two of one low and high, whose box has these first returns."""
    if not is_table(table):
        raise NoTable("a table is 2 to 17 lists, each one longer than the one ahead of it, that begin with 0")
    top = len(table) - 1
    switches = [
        (low, high, weight_at(table, low, high))
        for low in range(top)
        for high in range(low + 1, top + 1)
    ]
    return [(low, high, weight) for low, high, weight in switches if weight != 0]


def answers_of(top, switches, row):
    """The box's answers, one behind each place of the row, beginning anew."""
    box = Box(top, switches)
    return [box.turn(place) for place in row]


def teller_of(top, one, other):
    """The row of two places that tells the two boxes apart, or None where there is none."""
    ones = returns_of(top, one)
    others = returns_of(top, other)
    for high in range(top + 1):
        for low in range(high, -1, -1):
            if ones[high][low] != others[high][low]:
                return [high, low]
    return None


def wheel_box(depth, top):
    """The switches of a box that answers with how far a wheel of this depth has gone from its depth above 0."""
    refuse_no_top(top)
    return [(at - depth, at + depth + 1, 1) for at in range(depth, top - depth)]
