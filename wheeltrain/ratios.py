"""Ratios: tuples of a top and a bottom."""

from math import gcd

from wheeltrain.errors import BadRatio
from wheeltrain.whole import is_whole

LEAST_NUMBER = 1
GREATEST_NUMBER = 1000000


def lowest(top, bottom):
    """Give the low ratio of two whole numbers, the bottom above nought."""
    # The divisor is above nought, so a top below nought stays below nought.
    common = gcd(top, bottom)
    return (top // common, bottom // common)


def times(one, other):
    """Give the product of two ratios, low."""
    return lowest(one[0] * other[0], one[1] * other[1])


def less(one, other):
    """Tell whether the first ratio is less than the second one."""
    # Both bottoms are above nought, so multiplying by them keeps the order.
    return one[0] * other[1] < other[0] * one[1]


def need_ratio(thing):
    """Give the ratio that is handed in, low, or refuse it with BadRatio."""
    if not isinstance(thing, tuple) or len(thing) != 2:
        raise BadRatio("a ratio is a tuple of two whole numbers")
    for number in thing:
        if not is_whole(number, LEAST_NUMBER, GREATEST_NUMBER):
            raise BadRatio("the numbers of a ratio are whole ones from 1 to 1000000")
    return lowest(thing[0], thing[1])
