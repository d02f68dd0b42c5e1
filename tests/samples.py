"""Trains, and things that are none, for the tests of all files; and the turns told anew."""

from fractions import Fraction

STAGES = [
    (2, 2), (2, 60), (60, 2), (12, 30), (45, 9), (59, 53),
    (12, 30, 8), (60, 2, 60), (7, 7, 7),
    (10, 20, 30, 40), (2, 3, 5, 7),
    (2, 60, 2, 60, 2), (11, 13, 17, 19, 23),
]

GOOD = (
    [[one] for one in STAGES]
    + [[one, other] for one in STAGES for other in STAGES]
    + [[one, other, third] for one in STAGES[::2] for other in STAGES[::3] for third in STAGES[1::2]]
)

WRONG_WHEELS = [1, 61, 0, -2, 100, 10 ** 30, True, False, "12", "", None, [12], (12,), {}]

WRONG_STAGES = (
    [(), (12,), (2, 3, 4, 5, 6, 7), (12, 30) * 4, [12, 30], [12, 30, 8], None, "12:30", "ab", 12, True,
     {12: 30, 30: 12}, {12, 30}, b"ab"]
    + [(wheel, 12) for wheel in WRONG_WHEELS]
    + [(12, wheel) for wheel in WRONG_WHEELS]
    + [(12, wheel, 30) for wheel in WRONG_WHEELS]
    + [(12, 30, 8, 9, wheel) for wheel in WRONG_WHEELS]
)

WRONG_TRAINS = (
    [[], [(12, 30)] * 4, [(12, 30)] * 5, ((12, 30),), ((12, 30), (9, 45)), (12, 30), (), None, 0, 12,
     "12:30", "", b"ab", {}, {0: (12, 30)}, True, False, [12, 30], {(12, 30)}]
    + [[stage] for stage in WRONG_STAGES]
    + [[stage, (12, 30)] for stage in WRONG_STAGES]
    + [[(12, 30), stage] for stage in WRONG_STAGES]
    + [[(12, 30), (9, 45), stage] for stage in WRONG_STAGES]
)


def turns_by_fractions(train):
    """The turns of [4], each reckoned anew from the first wheel of its stage."""
    found = []
    axle = Fraction(1)
    for stage in train:
        row = [axle * Fraction(stage[0], wheel) * (-1) ** at for at, wheel in enumerate(stage)]
        found.append([(turn.numerator, turn.denominator) for turn in row])
        axle = row[-1]
    return found


GOOD_SHOPS = [(2, 2), (2, 3), (2, 4), (2, 5), (9, 12), (13, 13), (30, 32), (57, 60), (58, 60), (59, 60), (60, 60)]

WRONG_TEETH = [1, 61, 0, -2, 10 ** 30, True, False, None, "9", "", [9], (9,), {}]

WRONG_SHOPS = (
    [(2, 6), (9, 13), (56, 60), (2, 60), (10, 9), (12, 9), (60, 59),
     [9, 12], [], (), (9,), (9, 10, 11), None, "9:12", "ab", "", b"ab", 9, 0, True, False,
     {9: 12, 12: 9}, {}, {9, 12}]
    + [(teeth, 4) for teeth in WRONG_TEETH]
    + [(59, teeth) for teeth in WRONG_TEETH]
    + [(2, True), (True, 2), (True, True), (1, 1), (61, 61), (0, 2)]
)

WRONG_RATIOS = [
    (0, 1), (1, 0), (1000001, 1), (1, 1000001), (2000000, 2), (-1, 2), (1, -2), (-1, -2), (True, 2), (1, True),
    (False, 2), (None, 1), (1, None), ("1", 2), (1, [2]), [1, 2], (), (1,), (1, 2, 3), None, "12", "1:2", b"ab", 5,
    True, False, {}, {1: 2, 2: 1}, {1, 2},
]

# No numbers of pairs for any function; the limits differ.
WRONG_PAIRS = [-1, 4, 10 ** 30, True, False, None, "1", "", [], [1], (1,), {}, b"1"]


def train_fractions(shop, stages):
    """All ratios of trains of the shop with just so many stages, every train tried, as fractions."""
    teeth = range(shop[0], shop[1] + 1)
    pairs = [Fraction(driver, driven) for driver in teeth for driven in teeth]
    # As lists, not sets: nothing is left out before the last pair is on.
    found = [Fraction(1)]
    for _ in range(stages):
        found = [old * pair for old in found for pair in pairs]
    return found


def as_ratio(fraction):
    return (fraction.numerator, fraction.denominator)
