"""Shops: tuples of the least and the greatest number of teeth of their wheels."""

from wheeltrain.errors import BadPairs, BadShop
from wheeltrain.ratios import less, times
from wheeltrain.trains import is_wheel
from wheeltrain.whole import is_whole

WIDEST = 3
LEAST_PAIRS = 0
MOST_PAIRS = 2


def need_shop(thing):
    """Give the numbers of teeth that the shop has, rising, or refuse it with BadShop."""
    if not isinstance(thing, tuple) or len(thing) != 2:
        raise BadShop("a shop is a tuple of two numbers of teeth")
    least, greatest = thing
    if not is_wheel(least) or not is_wheel(greatest):
        raise BadShop("the wheels of a shop have 2 to 60 teeth")
    if not least <= greatest <= least + WIDEST:
        raise BadShop("the greatest number of teeth is from the least one to the least one and 3")
    return list(range(least, greatest + 1))


def need_pairs(thing, least, most):
    """Refuse with BadPairs what is no number of pairs within the limits."""
    if not is_whole(thing, least, most):
        raise BadPairs(f"the number of pairs is a whole one from {least} to {most}")


def all_ratios(shop, pairs):
    """Give the row of the shop: the rising list of all ratios of just so many pairs."""
    teeth = need_shop(shop)
    need_pairs(pairs, LEAST_PAIRS, MOST_PAIRS)
    return rising(trains_by_ratio(teeth, pairs))


def trains_by_ratio(teeth, pairs):
    """Give a dict of all ratios of just so many pairs, without their way round.

    With each ratio stands one train that has it, for no pairs the empty list.
    """
    found = {(1, 1): []}
    for _ in range(pairs):
        found = with_one_pair_more(found, teeth)
    return found


def with_one_pair_more(shorter, teeth):
    """Give the dict of the ratios that the trains of a dict have behind one pair more."""
    longer = {}
    for old, train in shorter.items():
        for driver in teeth:
            for driven in teeth:
                new = times(old, (driver, driven))
                if new not in longer:
                    longer[new] = train + [(driver, driven)]
    return longer


def rising(ratios):
    """Give the ratios in a rising list."""
    row = []
    # Ratios are compared by less alone, so each one is put behind all that are less.
    for told in ratios:
        place = len([other for other in row if less(other, told)])
        row.insert(place, told)
    return row
