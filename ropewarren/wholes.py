"""Whole numbers, and the bounds and names that are numbers."""

ROOMS = 16
LONG = 10 ** 12
WIDE = 10 ** 6
NARROWS = 12
FLAPS = 6
REACH = 10 ** 14
KNOTS = 4
TAIL = 0
HEAD = 1


def is_whole(thing):
    """Tell whether anything is a whole number: an int that is no truth."""
    return isinstance(thing, int) and not isinstance(thing, bool)


def is_within(thing, low, high):
    """Tell whether anything is a whole number from low to high, both counted in."""
    return is_whole(thing) and low <= thing <= high
