"""Trains: lists of stages, each a tuple of wheels told by their teeth."""

from wheeltrain.errors import BadPlace, BadTrain, BadWheel, TooLong
from wheeltrain.ratios import times
from wheeltrain.whole import is_whole

LEAST_TEETH = 2
MOST_TEETH = 60
LEAST_WHEELS = 2
MOST_WHEELS = 5
LEAST_STAGES = 1
MOST_STAGES = 3


def is_wheel(thing):
    """Tell whether the thing is a number of teeth that a wheel may have."""
    return is_whole(thing, LEAST_TEETH, MOST_TEETH)


def is_stage(thing):
    """Tell whether the thing is a tuple of two to five wheels."""
    if not isinstance(thing, tuple) or not LEAST_WHEELS <= len(thing) <= MOST_WHEELS:
        return False
    return all([is_wheel(wheel) for wheel in thing])


def need_train(thing):
    """Give the train that is handed in, in a new list, or refuse it with BadTrain."""
    if not isinstance(thing, list) or not LEAST_STAGES <= len(thing) <= MOST_STAGES:
        raise BadTrain("a train is a list of one to three stages")
    for stage in thing:
        if not is_stage(stage):
            raise BadTrain("a stage is a tuple of two to five wheels of 2 to 60 teeth")
    return list(thing)


def turns(train):
    """Give the turns of each wheel, as low ratios by stages and wheels."""
    found = []
    # The first wheel of a stage sits on the axle of the last one of the stage ahead.
    axle = (1, 1)
    for stage in need_train(train):
        row = stage_turns(stage, axle)
        found.append(row)
        axle = row[-1]
    return found


def stage_turns(stage, first):
    """Give the turns of each wheel of one stage whose first wheel has the given turns."""
    row = [first]
    for teeth, next_teeth in zip(stage, stage[1:]):
        row.append(times(row[-1], (-teeth, next_teeth)))
    return row


def ratio(train):
    """Give the turns of the last wheel of the train."""
    return turns(train)[-1][-1]


def about(train):
    """Give the train turned about: its last wheel is the first one."""
    stages = need_train(train)
    return [stage[::-1] for stage in stages[::-1]]


def plain(train):
    """Give the train without its idle wheels."""
    return [(stage[0], stage[-1]) for stage in need_train(train)]


def joined(one, other):
    """Give the stages of the first train and then those of the second one."""
    first = need_train(one)
    second = need_train(other)
    if len(first) + len(second) > MOST_STAGES:
        raise TooLong("a train has no room for more than three stages")
    return first + second


def idled(train, stage, place, teeth):
    """Give the train with an idle wheel more, ahead of the wheel at the place of the stage."""
    stages = need_train(train)
    if not is_whole(stage, 0, len(stages) - 1):
        raise BadPlace("the train has no such stage")
    wheels = stages[stage]
    if not is_whole(place, 1, len(wheels) - 1):
        raise BadPlace("the stage has no such place for an idle wheel")
    if not is_wheel(teeth):
        raise BadWheel("a wheel has 2 to 60 teeth")
    if len(wheels) == MOST_WHEELS:
        raise TooLong("a stage of five wheels has no room")
    stages[stage] = wheels[:place] + (teeth,) + wheels[place:]
    return stages
