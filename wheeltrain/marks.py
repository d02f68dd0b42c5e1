"""Marks: one on each wheel, and when all of them stand up again."""

from math import lcm

from wheeltrain.trains import turns


def meeting(train):
    """Give the least number of turns of the first wheel behind which all marks stand up.

    With it stands how many whole turns each wheel has made by then, by stages and wheels.
    """
    rows = turns(train)
    number = 1
    for row in rows:
        for _, bottom in row:
            # A wheel's turns are low: they become whole just for the multiples of the bottom.
            number = lcm(number, bottom)
    return number, [whole_turns(row, number) for row in rows]


def whole_turns(row, number):
    """Give what the turns of a stage's wheels come to for a number of turns of the first wheel."""
    return [top * number // bottom for top, bottom in row]
