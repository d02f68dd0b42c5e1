"""Searching a shop for trains that have a wished ratio or come nearest to it."""

from wheeltrain.ratios import less, need_ratio, times
from wheeltrain.shops import all_ratios, need_pairs, need_shop, rising, trains_by_ratio

FEWEST_PAIRS = 1
MOST_PAIRS = 3


def need_search(shop, wished, pairs):
    """Give the shop's numbers of teeth and the wished ratio, low, or refuse what is wrong first."""
    teeth = need_shop(shop)
    low = need_ratio(wished)
    need_pairs(pairs, FEWEST_PAIRS, MOST_PAIRS)
    return teeth, low


def reached(shop, wished, pairs):
    """Give a train of the fewest stages that has the wished ratio, or None."""
    teeth, low = need_search(shop, wished, pairs)
    for stages in range(FEWEST_PAIRS, pairs + 1):
        trains = trains_by_ratio(teeth, stages)
        if low in trains:
            return trains[low]
    return None


def nearest(shop, wished, pairs):
    """Give the pair of the trains nearest to the wished ratio, not above it and not below it."""
    teeth, low = need_search(shop, wished, pairs)
    # A pair of wheels alike has the ratio (1, 1), so trains of fewer stages add no ratio.
    trains = trains_by_ratio(teeth, pairs)
    row = rising(trains)
    return own_train(trains, greatest_up_to(row, low)), own_train(trains, least_from(row, low))


def shown(shop, wished, pairs):
    """Give the triples that show that nothing lies between the nearest ones."""
    low = need_search(shop, wished, pairs)[1]
    last_pair = all_ratios(shop, 1)
    triples = []
    for told in all_ratios(shop, pairs - 1):
        # What the last pair must come to, for the product to be the wished ratio.
        rest = times(low, (told[1], told[0]))
        triples.append((told, greatest_up_to(last_pair, rest), least_from(last_pair, rest)))
    return triples


def greatest_up_to(row, limit):
    """Give the greatest ratio of a rising row that is not above the limit, or None."""
    fitting = [told for told in row if not less(limit, told)]
    return fitting[-1] if fitting else None


def least_from(row, limit):
    """Give the least ratio of a rising row that is not below the limit, or None."""
    fitting = [told for told in row if not less(told, limit)]
    return fitting[0] if fitting else None


def own_train(trains, told):
    """Give the train of a ratio, or None where there is no ratio."""
    if told is None:
        return None
    # A new list: both nearest trains may be the same one, and each is changed alone.
    return list(trains[told])
