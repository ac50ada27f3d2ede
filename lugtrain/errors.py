"""The refusals: one class each, all straight under TrainError."""


class TrainError(ValueError):
    """Any refusal."""


class NoTrain(TrainError):
    """The plays tell no train."""


class NoStand(TrainError):
    """The handle and the wheels keep not the plays, or are not as many."""


class NoPaper(TrainError):
    """The musts are no paper for the errand."""


class NoBox(TrainError):
    """The top is not that of a box."""


class NoSwitch(TrainError):
    """The low or the high is not that of a switch."""


class NoPlace(TrainError):
    """The place is not within the box."""


class NoTable(TrainError):
    """The table is not that of first returns."""


class NoText(TrainError):
    """The text tells no train and stand."""


class NoRow(TrainError):
    """The desk knows no such row."""


class NoPiece(TrainError):
    """The train has no piece of that number."""


class NothingLeft(TrainError):
    """Nothing is left that could be taken back."""


class TooMany(TrainError):
    """There are more stands than are told."""
