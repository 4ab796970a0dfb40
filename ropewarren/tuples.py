"""Forms of tuples that several kinds of things are made of."""

from ropewarren.wholes import is_within


def is_tuple_of(thing, many):
    """Tell whether anything is a tuple of that many things."""
    return isinstance(thing, tuple) and len(thing) == many


def are_rising_pairs(thing, low, high):
    """Tell whether anything is a tuple of pairs whose first parts are whole numbers from low to high that rise.

    Pairs that rise with no first part twice are just those whose first parts
    rise, so the second parts need not be compared here.
    """
    if not isinstance(thing, tuple):
        return False
    least = low
    for pair in thing:
        if not is_tuple_of(pair, 2) or not is_within(pair[0], least, high):
            return False
        least = pair[0] + 1
    return True
