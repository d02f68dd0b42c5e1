"""What is refused, each kind by an error class of its own."""


class TrainError(ValueError):
    """Any refusal."""


class BadRatio(TrainError):
    """What is handed in is no ratio."""


class BadTrain(TrainError):
    """What is handed in is no train."""


class BadShop(TrainError):
    """What is handed in is no shop."""


class BadPairs(TrainError):
    """What is handed in is no number of pairs."""


class BadPlace(TrainError):
    """What is handed in is no stage of the train, or no place of the stage."""


class BadWheel(TrainError):
    """What is handed in is no wheel."""


class TooLong(TrainError):
    """A train would get too many stages, or a stage too many wheels."""


class NoText(TrainError):
    """What is handed in is not the text of a train."""
