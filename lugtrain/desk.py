"""The desk: it is told rows of words, and answers each by a text."""

from lugtrain.bounds import ranges_of
from lugtrain.errands import least_of, least_row
from lugtrain.errors import NoRow, NothingLeft
from lugtrain.grabs import grabbed
from lugtrain.texts import are_numbers, numbers_of, shown, written
from lugtrain.trains import refuse_no_stand, refuse_no_train, run_of
from lugtrain.walkers import farther

# Of each word how many numbers stand behind it: at least, and at most or None where there is no most.
FORMS = {
    "plays": (1, None),
    "at": (2, None),
    "turn": (1, None),
    "where": (0, 0),
    "ways": (0, 0),
    "least": (2, None),
    "text": (0, 0),
    "grab": (2, 2),
    "range": (2, 2),
    "back": (0, 0),
}


def has_form(word, rest):
    """Whether a word and those behind it are a row of the desk."""
    if word not in FORMS or not are_numbers(rest):
        return False
    least, most = FORMS[word]
    return len(rest) >= least and (most is None or len(rest) <= most)


def parted(row):
    """The row's word and the numbers behind it, or NoRow."""
    word, *rest = row.split(" ")
    if not has_form(word, rest):
        raise NoRow("a row is one of the desk's words and its numbers, parted by single blanks")
    return (word, numbers_of(rest))


# A state is (plays, handle, wheels, ways); each deed below tells the one behind it, and none is ever changed.


def new_train(state, plays):
    """A train of these plays, all of it at 0."""
    refuse_no_train(plays)
    return (plays, 0, [0] * len(plays), [0] * len(plays))


def set_down(state, numbers):
    """The train at another stand, from where its ways are counted anew."""
    plays, handle, wheels, ways = state
    end, *goal = numbers
    refuse_no_stand(plays, end, goal)
    return (plays, end, goal, [0] * len(plays))


def turned_by(state, row):
    """The train once the handle has gone to each place of the row."""
    plays, handle, wheels, ways = state
    run = [wheels] + run_of(plays, handle, wheels, row)
    for ahead, here in zip(run, run[1:]):
        ways = farther(ways, ahead, here)
    return (plays, row[-1], run[-1], ways)


def grabbed_at(state, numbers):
    """The train once a piece has been grabbed and moved to a place."""
    plays, handle, wheels, ways = state
    piece, place = numbers
    end, places = grabbed(plays, handle, wheels, piece, place)
    return (plays, end, places, farther(ways, wheels, places))


def where_text(state, numbers):
    """The places of the handle and of the wheels."""
    plays, handle, wheels, ways = state
    return written([handle] + wheels)


def ways_text(state, numbers):
    """How far each wheel has gone in all."""
    plays, handle, wheels, ways = state
    return written(ways)


def least_text(state, numbers):
    """The least way to the goal, and the told row's places."""
    plays, handle, wheels, ways = state
    end, *goal = numbers
    row = least_row(plays, handle, wheels, end, goal)
    return written([least_of(plays, handle, wheels, end, goal)] + row)


def train_text(state, numbers):
    """The text of the train and where it stands."""
    plays, handle, wheels, ways = state
    return shown(plays, handle, wheels)


def range_text(state, numbers):
    """Of each wheel the two numbers of its range within bounds."""
    plays, handle, wheels, ways = state
    low, high = numbers
    return " ".join([f"{least}:{most}" for least, most in ranges_of(plays, handle, wheels, low, high)])


DEEDS = {"plays": new_train, "at": set_down, "turn": turned_by, "grab": grabbed_at}
ANSWERS = {"where": where_text, "ways": ways_text, "least": least_text, "text": train_text, "range": range_text}


class Desk:
    """A train, once there is one, and all states that it came from."""

    def __init__(self):
        self.states = []

    def say(self, row):
        """The answer to the row."""
        word, numbers = parted(row)
        if word == "back":
            return self.take_back()
        if word in DEEDS:
            return self.do(word, numbers)
        return self.tell(word, numbers)

    def take_back(self):
        """The last deed is taken back."""
        if not self.states:
            raise NothingLeft("nothing was done that is not taken back")
        self.states.pop()
        return "ok"

    def do(self, word, numbers):
        """The deed is done, and the state behind it kept."""
        state = None if word == "plays" else self.state()
        deed = DEEDS[word]
        self.states.append(deed(state, numbers))
        return "ok"

    def tell(self, word, numbers):
        """What is asked of the state."""
        asked = ANSWERS[word]
        return asked(self.state(), numbers)

    def state(self):
        """The state now, or NoRow as long as there is no train."""
        if not self.states:
            raise NoRow("as long as there is no train it can't be asked or moved")
        return self.states[-1]
