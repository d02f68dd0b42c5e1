"""Whole numbers, as all parts of the program take them."""


def is_whole(thing, least, greatest):
    """Tell whether the thing is a whole number from the least to the greatest."""
    # To Python True and False are ints; to the document they are none.
    if isinstance(thing, bool) or not isinstance(thing, int):
        return False
    return least <= thing <= greatest
