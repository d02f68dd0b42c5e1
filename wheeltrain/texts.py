"""Texts: trains as they are written."""

from wheeltrain.errors import BadTrain, NoText
from wheeltrain.trains import LEAST_TEETH, MOST_TEETH, need_train


def written(train):
    """Give the text of the train."""
    return " ".join([written_stage(stage) for stage in need_train(train)])


def written_stage(stage):
    """Give the text of one stage."""
    return ":".join([str(teeth) for teeth in stage])


def read(text):
    """Give the train of a text, or refuse it with NoText."""
    if not isinstance(text, str):
        raise NoText("what is no text is no text of a train")
    stages = [read_stage(part) for part in text.split(" ")]
    try:
        return need_train(stages)
    except BadTrain:
        raise NoText("a train has one to three stages of two to five wheels") from None


def read_stage(part):
    """Give the stage of a text between blanks, with any number of wheels."""
    # Only what a number of teeth is written as is read: no noughts ahead, no signs.
    wheels = {str(teeth): teeth for teeth in range(LEAST_TEETH, MOST_TEETH + 1)}
    stage = []
    for word in part.split(":"):
        if word not in wheels:
            raise NoText("a wheel is written as its teeth, from 2 to 60")
        stage.append(wheels[word])
    return tuple(stage)
